"""Point 3: the part, and that no time is lost in its bars."""

import unittest

from asking import BEGIN, WIDE, ask, bar, last, note, part, player


def written(bars, notes, shift=0):
    calls = [BEGIN] + [bar(length) for length in bars] + [player(shift, 0, 127)]
    return last(*calls, *[note(0, start, length, high) for start, length, high in notes], part(0))


def lost_time(bars, row):
    """The first bar whose written lengths don't come to its own, or None."""
    k = 1
    number = 0
    while k < len(row):
        if row[k] == 255:
            number += row[k + 1]
            k += 2
            continue
        length = 0
        while k < len(row) and row[k] != 255 and length < bars[number]:
            length += row[k + 1]
            k += 2
        if length != bars[number]:
            return number
        number += 1
    return None if number == len(bars) else number


class EmptyBars(unittest.TestCase):
    def test_no_bars(self):
        self.assertEqual(written([], []), [0])

    def test_one(self):
        self.assertEqual(written([4], []), [0, 255, 1])

    def test_several_one_behind_another(self):
        self.assertEqual(written([4, 3, 64], []), [0, 255, 3])

    def test_as_many_as_there_may_be(self):
        self.assertEqual(written([64] * 64, []), [0, 255, 64])

    def test_ahead_of_others(self):
        self.assertEqual(written([4, 3, 2], [(7, 2, 60)]), [0, 255, 2, 84, 2])

    def test_behind_others(self):
        self.assertEqual(written([4, 3, 2], [(0, 4, 60)]), [0, 84, 4, 255, 2])

    def test_between_others(self):
        self.assertEqual(written([4, 4, 4, 4], [(0, 4, 60), (12, 4, 61)]), [0, 84, 4, 255, 2, 85, 4])

    def test_several_times(self):
        notes = [(2, 2, 60), (6, 2, 61), (12, 2, 62)]
        self.assertEqual(written([2] * 8, notes), [0, 255, 1, 84, 2, 255, 1, 85, 2, 255, 2, 86, 2, 255, 1])

    def test_a_note_that_ends_at_a_bars_beginning_leaves_it_empty(self):
        self.assertEqual(written([4, 4], [(2, 2, 60)]), [0, 254, 2, 84, 2, 255, 1])

    def test_a_bar_into_which_a_note_goes_on_is_not_empty(self):
        self.assertEqual(written([4, 4], [(2, 3, 60)]), [0, 254, 2, 84, 2, 253, 1, 254, 3])


class Rests(unittest.TestCase):
    def test_none(self):
        self.assertEqual(written([4], [(0, 4, 60)]), [0, 84, 4])

    def test_ahead(self):
        self.assertEqual(written([4], [(1, 3, 60)]), [0, 254, 1, 84, 3])

    def test_between(self):
        self.assertEqual(written([6], [(0, 1, 60), (3, 3, 62)]), [0, 84, 1, 254, 2, 86, 3])

    def test_behind(self):
        self.assertEqual(written([4], [(0, 1, 60)]), [0, 84, 1, 254, 3])

    def test_everywhere(self):
        self.assertEqual(written([9], [(1, 2, 60), (5, 3, 62)]), [0, 254, 1, 84, 2, 254, 2, 86, 3, 254, 1])

    def test_end_with_their_bar(self):
        self.assertEqual(written([4, 4], [(1, 1, 60), (6, 1, 62)]), [0, 254, 1, 84, 1, 254, 2, 254, 2, 86, 1, 254, 1])

    def test_none_between_notes_that_touch(self):
        self.assertEqual(written([4], [(0, 2, 60), (2, 2, 60)]), [0, 84, 2, 84, 2])


class GoesOn(unittest.TestCase):
    def test_over_one_bars_end(self):
        self.assertEqual(written([4, 4], [(3, 5, 60)]), [0, 254, 3, 84, 1, 253, 4])

    def test_over_several(self):
        self.assertEqual(written([4, 3, 5, 4], [(2, 11, 60)]), [0, 254, 2, 84, 2, 253, 3, 253, 5, 253, 1, 254, 3])

    def test_up_to_a_bars_end(self):
        self.assertEqual(written([4, 4, 4], [(0, 8, 60)]), [0, 84, 4, 253, 4, 255, 1])

    def test_then_another_begins(self):
        self.assertEqual(written([4, 4], [(0, 6, 60), (6, 2, 62)]), [0, 84, 4, 253, 2, 86, 2])

    def test_one_behind_another(self):
        notes = [(1, 4, 60), (5, 4, 62)]
        self.assertEqual(written([4, 4, 4], notes), [0, 254, 1, 84, 3, 253, 1, 86, 3, 253, 1, 254, 3])

    def test_from_a_bars_beginning_it_does_not_go_on(self):
        self.assertEqual(written([4, 4], [(0, 4, 60), (4, 4, 60)]), [0, 84, 4, 84, 4])

    def test_through_all_there_may_be(self):
        self.assertEqual(written([64] * 64, [(0, 4096, 60)]), [0, 84, 64] + [253, 64] * 63)


class Shift(unittest.TestCase):
    def test_above_0(self):
        self.assertEqual(written([4], [(0, 4, 60)], 2), [0, 86, 4])

    def test_below_0(self):
        self.assertEqual(written([4], [(0, 4, 60)], -12), [0, 72, 4])

    def test_lowest_and_highest_that_may_be_written(self):
        self.assertEqual(written([4], [(0, 4, 0)], -24), [0, 0, 4])
        self.assertEqual(written([4], [(0, 4, 127)], 24), [0, 175, 4])

    def test_changes_no_rest_and_nothing_that_goes_on(self):
        notes = [(1, 4, 60)]
        for shift in (-24, -1, 1, 24):
            row = written([4, 4, 4], notes, shift)
            self.assertEqual(row, [0, 254, 1, 84 + shift, 3, 253, 1, 254, 3, 255, 1])

    def test_each_player_has_their_own(self):
        calls = [BEGIN, bar(4), player(-7, 0, 127), player(9, 0, 127), note(0, 0, 4, 60), note(1, 0, 4, 60)]
        self.assertEqual(ask(*calls, part(0), part(1))[-2:], [[0, 77, 4], [0, 93, 4]])


class Asked(unittest.TestCase):
    def test_changes_nothing(self):
        rows = ask(BEGIN, bar(4), WIDE, note(0, 1, 2, 60), part(0), part(0), note(0, 3, 1, 60), bar(1), WIDE)
        self.assertEqual(rows[4:], [[0, 254, 1, 84, 2, 254, 1]] * 2 + [[2], [1], [1]])

    def test_no_time_is_lost(self):
        bars = [4, 3, 5, 1, 1, 64, 2, 2, 2, 7, 4]
        notes = [(1, 1, 60), (3, 3, 61), (6, 6, 62), (14, 1, 63), (20, 50, 64), (77, 3, 65), (80, 12, 66)]
        for many in range(len(notes) + 1):
            for first in range(many + 1):
                self.assertIsNone(lost_time(bars, written(bars, notes[first:many])))


if __name__ == "__main__":
    unittest.main()

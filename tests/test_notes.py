"""Point 2: note and drop."""

import unittest

from asking import BEGIN, WIDE, ask, bar, drop, last, note, part, player

BIG = 4294967295


def with_256():
    """Five bars; 256 notes fill the first four of them."""
    return [BEGIN, player(0, 50, 70)] + [bar(64)] * 5 + [note(0, t, 1, 60) for t in range(256)]


class Note(unittest.TestCase):
    def test_answers_how_many_they_have(self):
        rows = ask(BEGIN, bar(8), WIDE, note(0, 0, 2, 60), note(0, 5, 1, 62), note(0, 2, 2, 64))
        self.assertEqual(rows[-3:], [[1], [2], [3]])

    def test_each_player_has_their_own(self):
        rows = ask(BEGIN, bar(8), WIDE, WIDE, note(0, 0, 2, 60), note(1, 0, 2, 60), note(1, 4, 1, 61), note(0, 4, 1, 61))
        self.assertEqual(rows[-4:], [[1], [1], [2], [2]])

    def test_the_order_they_come_in_does_not_matter(self):
        one, two, three = note(0, 0, 1, 60), note(0, 2, 3, 62), note(0, 6, 2, 64)
        want = last(BEGIN, bar(4), bar(4), WIDE, one, two, three, part(0))
        self.assertEqual(want, [0, 84, 1, 254, 1, 86, 2, 253, 1, 254, 1, 88, 2])
        for order in ((one, three, two), (two, one, three), (two, three, one), (three, one, two), (three, two, one)):
            self.assertEqual(last(BEGIN, bar(4), bar(4), WIDE, *order, part(0)), want)

    def test_no_length(self):
        one = [BEGIN, bar(4), WIDE]
        for start in (0, 2, 4, 5, BIG):
            self.assertEqual(last(*one, note(0, start, 0, 60)), [-22], start)

    def test_no_bars(self):
        self.assertEqual(last(BEGIN, WIDE, note(0, 0, 1, 60)), [-22])
        self.assertEqual(last(BEGIN, WIDE, note(0, 0, 0, 60)), [-22])

    def test_ends_just_at_the_last_bars_end(self):
        two = [BEGIN, bar(4), bar(3), WIDE]
        for start, length in ((0, 7), (3, 4), (4, 3), (6, 1)):
            self.assertEqual(last(*two, note(0, start, length, 60)), [1], (start, length))

    def test_ends_behind_the_last_bars_end(self):
        two = [BEGIN, bar(4), bar(3), WIDE]
        wrong = ((0, 8), (3, 5), (6, 2), (7, 1), (8, 1), (0, BIG), (BIG, 1), (BIG, BIG), (1, BIG), (2 ** 31, 2 ** 31))
        for start, length in wrong:
            self.assertEqual(last(*two, note(0, start, length, 60)), [-22], (start, length))

    def test_over_several_bars(self):
        rows = ask(BEGIN, bar(2), bar(1), bar(2), bar(3), WIDE, note(0, 1, 6, 60), part(0))
        self.assertEqual(rows[-2:], [[1], [0, 254, 1, 84, 1, 253, 1, 253, 2, 253, 2, 254, 1]])

    def test_as_long_as_all_bars_together(self):
        self.assertEqual(last(BEGIN, *[bar(64)] * 64, WIDE, note(0, 0, 4096, 60)), [1])
        self.assertEqual(last(BEGIN, *[bar(64)] * 64, WIDE, note(0, 0, 4097, 60)), [-22])

    def test_both_ends_of_the_range(self):
        for high, want in ((49, -34), (50, 1), (60, 1), (70, 1), (71, -34), (0, -34), (127, -34), (BIG, -34)):
            self.assertEqual(last(BEGIN, bar(4), player(0, 50, 70), note(0, 0, 1, high)), [want], high)

    def test_ends_of_the_widest_range(self):
        for high, want in ((0, 1), (127, 1), (128, -34)):
            self.assertEqual(last(BEGIN, bar(4), WIDE, note(0, 0, 1, high)), [want], high)

    def test_the_range_is_of_what_sounds_not_of_what_is_written(self):
        for shift in (-24, 24):
            for high, want in ((49, -34), (50, 1), (70, 1), (71, -34)):
                self.assertEqual(last(BEGIN, bar(4), player(shift, 50, 70), note(0, 0, 1, high)), [want])

    def test_sounds_at_once_with_another(self):
        one = [BEGIN, bar(12), WIDE, note(0, 4, 4, 60)]
        for start, length in ((4, 4), (4, 1), (7, 1), (5, 2), (3, 2), (0, 5), (7, 5), (3, 6), (0, 12), (4, 8), (0, 8)):
            self.assertEqual(last(*one, note(0, start, length, 62)), [-17], (start, length))

    def test_touches_but_does_not_sound_at_once(self):
        one = [BEGIN, bar(12), WIDE, note(0, 4, 4, 60)]
        for start, length in ((0, 4), (3, 1), (8, 1), (8, 4)):
            self.assertEqual(last(*one, note(0, start, length, 60)), [2], (start, length))

    def test_between_two_that_it_touches(self):
        rows = ask(BEGIN, bar(6), WIDE, note(0, 0, 2, 60), note(0, 4, 2, 60), note(0, 2, 2, 60), part(0))
        self.assertEqual(rows[-2:], [[3], [0, 84, 2, 84, 2, 84, 2]])

    def test_at_once_with_any_of_several(self):
        three = [BEGIN, bar(12), WIDE, note(0, 8, 2, 60), note(0, 0, 2, 60), note(0, 4, 2, 60)]
        for start in (0, 1, 4, 5, 8, 9):
            self.assertEqual(last(*three, note(0, start, 1, 60)), [-17], start)
        for start in (2, 3, 6, 7, 10, 11):
            self.assertEqual(last(*three, note(0, start, 1, 60)), [4], start)

    def test_another_players_note_does_not_matter(self):
        self.assertEqual(last(BEGIN, bar(4), WIDE, WIDE, note(0, 0, 4, 60), note(1, 0, 4, 60)), [1])

    def test_256_and_one_more(self):
        rows = ask(*with_256(), note(0, 256, 1, 60))
        self.assertEqual(rows[-2:], [[256], [-28]])

    def test_256_of_one_leave_room_to_another(self):
        self.assertEqual(last(*with_256(), WIDE, note(1, 0, 1, 60)), [1])

    def test_which_refusal_comes_first(self):
        one = [BEGIN, bar(8), player(0, 50, 70), note(0, 0, 8, 60)]
        self.assertEqual(last(*one, note(0, 0, 0, 99)), [-22])
        self.assertEqual(last(*one, note(0, 0, 9, 60)), [-22])
        self.assertEqual(last(*one, note(0, 7, 2, 99)), [-22])
        self.assertEqual(last(*one, note(0, 0, 8, 49)), [-34])
        self.assertEqual(last(*one, note(0, 0, 8, 71)), [-34])
        self.assertEqual(last(*one, note(0, 0, 8, 70)), [-17])

    def test_which_refusal_comes_first_at_256(self):
        full = with_256()
        self.assertEqual(last(*full, note(0, 256, 0, 60)), [-22])
        self.assertEqual(last(*full, note(0, 319, 2, 60)), [-22])
        self.assertEqual(last(*full, note(0, 256, 1, 71)), [-34])
        self.assertEqual(last(*full, note(0, 255, 2, 60)), [-17])
        self.assertEqual(last(*full, note(0, 256, 64, 60)), [-28])
        self.assertEqual(last(*full, note(1, 256, 1, 60)), [-2])

    def test_a_refused_one_changes_nothing(self):
        one = [BEGIN, bar(8), player(0, 50, 70), note(0, 2, 2, 60)]
        for call in (note(0, 5, 0, 60), note(0, 5, 4, 60), note(0, 5, 1, 71), note(0, 3, 2, 62), note(1, 5, 1, 60)):
            rows = ask(*one, part(0), call, part(0), note(0, 5, 1, 60))
            self.assertLess(rows[-3][0], 0)
            self.assertEqual(rows[-2], rows[-4])
            self.assertEqual(rows[-1], [2])

    def test_one_beyond_256_changes_nothing(self):
        rows = ask(*with_256(), part(0), note(0, 300, 1, 60), part(0), drop(0, 300), drop(0, 7), note(0, 300, 1, 60))
        self.assertEqual(rows[-4], rows[-6])
        self.assertEqual(rows[-5], [-28])
        self.assertEqual(rows[-3:], [[-2], [255], [256]])


class Drop(unittest.TestCase):
    def setUp(self):
        self.three = [BEGIN, bar(12), WIDE, note(0, 0, 2, 60), note(0, 4, 4, 62), note(0, 8, 2, 64)]

    def test_answers_how_many_they_have(self):
        self.assertEqual(ask(*self.three, drop(0, 4), drop(0, 0), drop(0, 8))[-3:], [[2], [1], [0]])

    def test_that_one_is_gone_and_no_other(self):
        self.assertEqual(last(*self.three, drop(0, 0), part(0)), [0, 254, 4, 86, 4, 88, 2, 254, 2])
        self.assertEqual(last(*self.three, drop(0, 4), part(0)), [0, 84, 2, 254, 6, 88, 2, 254, 2])
        self.assertEqual(last(*self.three, drop(0, 8), part(0)), [0, 84, 2, 254, 2, 86, 4, 254, 4])

    def test_none_begins_there(self):
        for start in (1, 2, 3, 5, 6, 7, 9, 10, 12, 13, BIG):
            self.assertEqual(last(*self.three, drop(0, start)), [-2], start)

    def test_none_at_all(self):
        self.assertEqual(last(BEGIN, bar(4), WIDE, drop(0, 0)), [-2])
        self.assertEqual(last(BEGIN, WIDE, drop(0, 0)), [-2])

    def test_not_twice(self):
        self.assertEqual(ask(*self.three, drop(0, 4), drop(0, 4))[-2:], [[2], [-2]])

    def test_a_refused_one_changes_nothing(self):
        rows = ask(*self.three, part(0), drop(0, 5), part(0), drop(1, 4), part(0), note(0, 10, 2, 60))
        self.assertEqual(rows[-4], rows[-6])
        self.assertEqual(rows[-2], rows[-6])
        self.assertEqual(rows[-1], [4])

    def test_another_players_note_stays(self):
        rows = ask(*self.three, WIDE, note(1, 4, 1, 60), drop(0, 4), drop(1, 0), drop(1, 4))
        self.assertEqual(rows[-3:], [[2], [-2], [0]])

    def test_its_place_is_free_again(self):
        rows = ask(*self.three, drop(0, 4), note(0, 2, 6, 70), part(0))
        self.assertEqual(rows[-2:], [[3], [0, 84, 2, 94, 6, 88, 2, 254, 2]])


if __name__ == "__main__":
    unittest.main()

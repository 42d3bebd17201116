"""Point 4: read; and that a part goes there and back."""

import itertools
import random
import unittest

from asking import BEGIN, WIDE, ask, bar, drop, last, note, part, player, read, sounds

BIG = 4294967295


def answered(bars, b, reader=WIDE):
    """What read answers where there are these bars and one player."""
    given = last(BEGIN, *[bar(length) for length in bars], reader, read(0, b))
    if len(given) != 1:
        raise AssertionError(f"read answered {given}")
    return given[0]


class ThereAndBack(unittest.TestCase):
    def setUp(self):
        self.bars = [bar(4), bar(3), bar(5), bar(2), bar(2), bar(4)]
        self.notes = [(1, 2, 60), (3, 6, 70), (9, 1, 55), (17, 1, 60), (18, 2, 60)]
        self.b = [254, 1, 84, 2, 94, 1, 253, 3, 253, 2, 79, 1, 254, 2, 255, 2, 254, 1, 84, 1, 84, 2]

    def with_notes(self, *readers):
        return [BEGIN, *self.bars, *readers] + [note(0, start, length, high) for start, length, high in self.notes]

    def test_by_the_player_that_has_it(self):
        calls = self.with_notes(WIDE)
        heard = [sounds(t) for t in range(20)]
        rows = ask(*calls, part(0), *heard, read(0, self.b), part(0), *heard)
        self.assertEqual(rows[-22 - 21], [0] + self.b)
        self.assertEqual(rows[-22:], [[5]] + rows[-22 - 21:-22])

    def test_by_a_new_player(self):
        rows = ask(BEGIN, *self.bars, WIDE, read(0, self.b), part(0), *[sounds(t) for t in range(20)])
        self.assertEqual(rows[8:10], [[5], [0] + self.b])
        want = [[0]] * 20
        for start, length, high in self.notes:
            want[start:start + length] = [[1, 0, high]] * length
        self.assertEqual(rows[10:], want)

    def test_the_notes_begin_where_they_did(self):
        drops = [drop(0, t) for t in range(20)]
        rows = ask(BEGIN, *self.bars, WIDE, read(0, self.b), *drops)
        left = {1: [4], 3: [3], 9: [2], 17: [1], 18: [0]}
        self.assertEqual(rows[9:], [left.get(t, [-2]) for t in range(20)])

    def test_by_another_with_another_shift(self):
        calls = self.with_notes(player(2, 0, 127), player(-3, 0, 127))
        rows = ask(*calls, part(0), read(1, last(*calls, part(0))[1:]), part(1), part(0), *[sounds(t) for t in range(20)])
        self.assertEqual(rows[-23], [5])
        self.assertEqual(rows[-22], rows[-24])
        self.assertEqual(rows[-21], rows[-24])
        want = [[0]] * 20
        for start, length, high in self.notes:
            want[start:start + length] = [[2, 0, high, 1, high + 5]] * length
        self.assertEqual(rows[-20:], want)

    def test_both_ends_of_the_shift(self):
        for shift, head, high in ((-24, 0, 0), (-24, 127, 127), (24, 48, 0), (24, 175, 127), (0, 24, 0), (0, 151, 127)):
            rows = ask(BEGIN, bar(4), player(shift, 0, 127), read(0, [head, 4]), sounds(0), part(0))
            self.assertEqual(rows[-3:], [[1], [1, 0, high], [0, head, 4]])

    def test_many(self):
        for seed in range(200):
            chance = random.Random(seed)
            bars = [bar(chance.choice([1, 2, 3, 4, 9])) for _ in range(chance.randint(0, 9))]
            end = sum(length for _, length in bars)
            shift = chance.randint(-24, 24)
            calls = [BEGIN, *bars, player(shift, 0, 127), player(shift, 0, 127)]
            calls += [note(0, chance.randint(0, end), chance.randint(1, 6), chance.randint(0, 127)) for _ in range(9)]
            b = last(*calls, part(0))[1:]
            heard = ask(*calls, *[sounds(t) for t in range(end)])[len(calls):]
            rows = ask(*calls, read(1, b), part(1), part(0), *[sounds(t) for t in range(end)])[len(calls):]
            self.assertGreaterEqual(rows[0][0], 0)
            self.assertEqual(rows[1:3], [[0] + b] * 2)
            self.assertEqual(rows[3:], [[2, 0, row[2], 1, row[2]] if row[0] else [0] for row in heard])

    def test_what_is_read_may_be_changed_further(self):
        rows = ask(BEGIN, bar(4), bar(4), WIDE, read(0, [84, 2, 254, 2, 254, 2, 86, 2]), note(0, 1, 2, 60), note(0, 2, 4, 60),
                   drop(0, 0), note(0, 6, 1, 60), drop(0, 6), part(0))
        self.assertEqual(rows[4:], [[2], [-17], [3], [2], [-17], [1], [0, 254, 2, 84, 2, 253, 2, 254, 2]])


class NoNumbers(unittest.TestCase):
    def test_with_no_bars(self):
        self.assertEqual(answered([], []), 0)

    def test_with_some_bars(self):
        self.assertEqual(answered([4], []), -71)
        self.assertEqual(answered([1, 1], []), -71)

    def test_some_numbers_with_no_bars(self):
        for b in ([255, 0], [255, 1], [254, 1], [254, 0], [253, 0], [84, 0], [84, 1], [0], [255]):
            self.assertEqual(answered([], b), -71, b)


class OddLength(unittest.TestCase):
    def test_a_number_too_much(self):
        for more in (0, 1, 84, 253, 254, 255):
            self.assertEqual(answered([4], [84, 4, more]), -71, more)
            self.assertEqual(answered([4, 4], [84, 4, 255, 1, more]), -71, more)
            self.assertEqual(answered([], [more]), -71, more)

    def test_a_number_too_few(self):
        self.assertEqual(answered([4], [84]), -71)
        self.assertEqual(answered([4, 4], [84, 4, 255]), -71)
        self.assertEqual(answered([4, 4], [84, 4, 253]), -71)


class EmptyBars(unittest.TestCase):
    def test_as_many_as_there_are(self):
        self.assertEqual(answered([4], [255, 1]), 0)
        self.assertEqual(answered([4, 3, 2], [255, 3]), 0)
        self.assertEqual(answered([64] * 64, [255, 64]), 0)

    def test_ahead_between_and_behind(self):
        self.assertEqual(answered([4, 3, 2, 5, 1], [255, 2, 84, 2, 255, 2]), 1)
        self.assertEqual(answered([4, 3, 2, 5], [84, 4, 255, 2, 84, 5]), 2)

    def test_begins_within_a_bar(self):
        for b in ([84, 2, 255, 1], [254, 2, 255, 1], [84, 2, 255, 2], [84, 2, 255, 1, 84, 2], [84, 2, 255, 1, 84, 4]):
            self.assertEqual(answered([4, 4], b), -71, b)

    def test_begins_behind_the_last_bar(self):
        for b in ([84, 4, 255, 1], [84, 4, 255, 0], [84, 5, 255, 1], [255, 1, 255, 1]):
            self.assertEqual(answered([4], b), -71, b)

    def test_more_than_there_are(self):
        for bars, b in (([4], [255, 2]), ([4, 4], [255, 3]), ([4, 4], [84, 4, 255, 2]), ([64] * 64, [255, 65]),
                        ([64] * 64, [255, 255])):
            self.assertEqual(answered(bars, b), -71, b)

    def test_fewer_than_there_are(self):
        self.assertEqual(answered([4, 4], [255, 1]), -71)
        self.assertEqual(answered([4, 4, 4], [255, 1, 84, 4]), -71)
        self.assertEqual(answered([4, 4, 4, 4], [84, 4, 255, 1, 84, 4]), -71)

    def test_count_0(self):
        for bars, b in (([], [255, 0]), ([4], [255, 0]), ([4], [255, 0, 84, 4]), ([4], [84, 4, 255, 0]),
                        ([4], [255, 0, 255, 1]), ([4], [255, 1, 255, 0]), ([4, 4], [84, 4, 255, 0, 84, 4])):
            self.assertEqual(answered(bars, b), -71, b)

    def test_two_one_behind_another(self):
        self.assertEqual(answered([4, 4], [255, 1, 255, 1]), -71)
        self.assertEqual(answered([4, 4, 4], [255, 1, 255, 2]), -71)
        self.assertEqual(answered([4, 4, 4, 4], [84, 4, 255, 1, 255, 1, 84, 4]), -71)

    def test_written_as_a_rest(self):
        self.assertEqual(answered([4], [254, 4]), -71)
        self.assertEqual(answered([4, 4], [84, 4, 254, 4]), -71)
        self.assertEqual(answered([4, 4], [254, 4, 84, 4]), -71)
        self.assertEqual(answered([4, 4], [255, 1, 254, 4]), -71)
        self.assertEqual(answered([4, 4], [254, 8]), -71)


class Rests(unittest.TestCase):
    def test_ahead_between_and_behind(self):
        self.assertEqual(answered([8], [254, 1, 84, 2, 254, 2, 86, 1, 254, 2]), 2)

    def test_one_on_each_side_of_a_bars_end(self):
        self.assertEqual(answered([4, 4], [84, 2, 254, 2, 254, 2, 84, 2]), 2)

    def test_two_one_behind_another(self):
        for b in ([254, 1, 254, 1, 84, 2], [84, 2, 254, 1, 254, 1], [84, 1, 254, 1, 254, 1, 84, 1], [254, 2, 254, 2]):
            self.assertEqual(answered([4], b), -71, b)

    def test_over_a_bars_end(self):
        self.assertEqual(answered([4, 4], [84, 2, 254, 4, 84, 2]), -71)
        self.assertEqual(answered([4, 4], [84, 2, 254, 6]), -71)

    def test_of_length_0(self):
        for b in ([254, 0, 84, 4], [84, 4, 254, 0], [84, 2, 254, 0, 84, 2], [254, 0, 254, 2, 84, 2], [254, 0]):
            self.assertEqual(answered([4], b), -71, b)


class Notes(unittest.TestCase):
    def test_of_length_0(self):
        for b in ([84, 0], [84, 0, 84, 4], [84, 4, 84, 0], [84, 2, 84, 0, 84, 2], [84, 2, 84, 0, 254, 2],
                  [254, 2, 84, 0, 254, 2], [84, 0, 255, 1], [255, 1, 84, 0], [254, 4, 84, 0]):
            self.assertEqual(answered([4], b), -71, b)
        self.assertEqual(answered([4, 4], [84, 4, 84, 0, 86, 4]), -71)
        self.assertEqual(answered([4, 4], [84, 0, 253, 4, 255, 1]), -71)

    def test_that_touch(self):
        self.assertEqual(answered([4, 4], [84, 2, 84, 2, 84, 4]), 3)

    def test_over_a_bars_end_without_253(self):
        for b in ([84, 8], [84, 5, 254, 3], [254, 2, 84, 4, 254, 2], [84, 5, 84, 3]):
            self.assertEqual(answered([4, 4], b), -71, b)

    def test_a_bar_that_is_not_filled(self):
        for b in ([84, 3, 255, 1], [84, 3], [84, 3, 253, 4], [84, 3, 84, 4], [84, 4, 84, 3], [84, 4, 254, 3]):
            self.assertEqual(answered([4, 4], b), -71, b)

    def test_a_bar_that_is_more_than_filled(self):
        for b in ([84, 5, 255, 1], [84, 4, 84, 5], [84, 3, 254, 2, 255, 1], [84, 4, 254, 1, 255, 1], [84, 4, 253, 5]):
            self.assertEqual(answered([4, 4], b), -71, b)

    def test_ends_before_the_last_bar(self):
        for b in ([84, 4], [255, 1], [84, 4, 253, 4], [84, 4, 255, 1]):
            self.assertEqual(answered([4, 4, 4], b), -71, b)

    def test_goes_on_behind_the_last_bar(self):
        for b in ([84, 4, 84, 1], [84, 4, 254, 1], [84, 4, 253, 1], [84, 4, 255, 1], [84, 5], [84, 3, 254, 2],
                  [255, 1, 84, 4], [255, 1, 254, 4], [84, 4, 254, 4], [84, 4] * 2000, [84, 255]):
            self.assertEqual(answered([4], b), -71, b[:9])


class GoesOn(unittest.TestCase):
    def test_over_one_bars_end(self):
        rows = ask(BEGIN, bar(4), bar(4), WIDE, read(0, [254, 3, 84, 1, 253, 4]), drop(0, 3))
        self.assertEqual(rows[4:], [[1], [0]])

    def test_over_several_bars(self):
        b = [254, 2, 84, 2, 253, 3, 253, 5, 253, 1, 254, 3]
        self.assertEqual(answered([4, 3, 5, 4], b), 1)
        self.assertEqual(answered([64] * 64, [84, 64] + [253, 64] * 63), 1)

    def test_then_another(self):
        self.assertEqual(answered([4, 4, 4], [254, 1, 84, 3, 253, 1, 86, 3, 253, 1, 254, 3]), 2)

    def test_at_the_very_beginning(self):
        for b in ([253, 4, 255, 1], [253, 2, 254, 2, 255, 1], [253, 4, 253, 4], [253, 2, 84, 2, 84, 4]):
            self.assertEqual(answered([4, 4], b), -71, b)

    def test_behind_a_rest(self):
        self.assertEqual(answered([4, 4], [84, 2, 254, 2, 253, 4]), -71)
        self.assertEqual(answered([4, 4], [84, 2, 254, 2, 253, 2, 254, 2]), -71)
        self.assertEqual(answered([4], [84, 1, 254, 1, 253, 2]), -71)
        self.assertEqual(answered([4, 4], [84, 4, 254, 1, 253, 3]), -71)

    def test_behind_an_empty_bar(self):
        self.assertEqual(answered([4, 4], [255, 1, 253, 4]), -71)
        self.assertEqual(answered([4, 4, 4], [84, 4, 255, 1, 253, 4]), -71)

    def test_within_a_bar(self):
        self.assertEqual(answered([4], [84, 2, 253, 2]), -71)
        self.assertEqual(answered([4, 4], [84, 4, 253, 2, 253, 2]), -71)
        self.assertEqual(answered([4, 4], [84, 4, 84, 2, 253, 2]), -71)

    def test_over_a_bars_end(self):
        self.assertEqual(answered([4, 4, 4], [84, 4, 253, 8]), -71)
        self.assertEqual(answered([4, 4, 4], [84, 2, 253, 10]), -71)

    def test_of_length_0(self):
        self.assertEqual(answered([4, 4], [84, 4, 253, 0, 255, 1]), -71)
        self.assertEqual(answered([4, 4], [84, 4, 253, 0, 84, 4]), -71)
        self.assertEqual(answered([4], [84, 4, 253, 0]), -71)


class Range(unittest.TestCase):
    def test_both_ends(self):
        for shift in (-24, -5, 0, 7, 24):
            for high, want in ((49, -71), (50, 1), (70, 1), (71, -71), (0, -71), (127, -71)):
                self.assertEqual(answered([4], [high + shift + 24, 4], player(shift, 50, 70)), want, (shift, high))

    def test_below_0(self):
        for shift, head, want in ((0, 23, -71), (0, 24, 1), (0, 0, -71), (24, 47, -71), (24, 48, 1), (-23, 0, -71),
                                  (-23, 1, 1), (-24, 0, 1)):
            self.assertEqual(answered([4], [head, 4], player(shift, 0, 127)), want, (shift, head))

    def test_above_127(self):
        for shift, head, want in ((0, 151, 1), (0, 152, -71), (24, 175, 1), (24, 176, -71), (24, 252, -71), (-24, 127, 1),
                                  (-24, 128, -71), (0, 252, -71)):
            self.assertEqual(answered([4], [head, 4], player(shift, 0, 127)), want, (shift, head))

    def test_one_among_several(self):
        reader = player(0, 50, 70)
        self.assertEqual(answered([4, 4], [84, 2, 94, 2, 74, 4], reader), 3)
        for b in ([95, 2, 84, 2, 84, 4], [84, 2, 95, 2, 84, 4], [84, 2, 84, 2, 95, 4], [84, 2, 84, 2, 73, 4]):
            self.assertEqual(answered([4, 4], b, reader), -71, b)


class AsManyNotes(unittest.TestCase):
    def test_256(self):
        self.assertEqual(answered([64] * 4, [84, 1] * 256), 256)

    def test_one_more(self):
        self.assertEqual(answered([64] * 5, [84, 1] * 257 + [254, 63]), -71)
        self.assertEqual(answered([64] * 5, [84, 1] * 256 + [84, 64]), -71)

    def test_256_and_a_rest(self):
        self.assertEqual(answered([64] * 5, [84, 1] * 256 + [255, 1]), 256)

    def test_256_of_which_some_go_on(self):
        calls = [BEGIN, WIDE] + [bar(64)] * 64 + [note(0, 15 * k, 15, 60) for k in range(256)]
        b = last(*calls, part(0))[1:]
        self.assertIn(253, b[::2])
        self.assertEqual(b[-2:], [255, 4])
        self.assertEqual(answered([64] * 64, b), 256)
        self.assertEqual(answered([64] * 64, b[:-2] + [84, 64, 255, 3]), -71)

    def test_those_there_were_do_not_count(self):
        full = [BEGIN, WIDE] + [bar(64)] * 4 + [note(0, t, 1, 60) for t in range(256)]
        self.assertEqual(last(*full, read(0, [86, 1] * 256)), [256])
        self.assertEqual(last(*full, read(0, [86, 64] * 4)), [4])

    def test_as_long_as_a_row_may_be(self):
        self.assertEqual(answered([64] * 64, [84, 1] * 2000), -71)
        self.assertEqual(answered([64] * 64, [255, 255] * 2000), -71)
        self.assertEqual(answered([64] * 64, [253, 255] * 2000), -71)


class WhatIsLeft(unittest.TestCase):
    def setUp(self):
        self.calls = [BEGIN, bar(4), bar(4), player(0, 50, 70), player(2, 0, 127), note(0, 1, 2, 60), note(0, 3, 3, 62),
                      note(1, 0, 8, 65)]
        self.state = [part(0), part(1)] + [sounds(t) for t in range(8)]

    def test_refused_leaves_all_notes(self):
        wrong = ([], [84], [84, 4], [84, 4, 84, 3], [84, 4, 95, 4], [84, 4, 253, 2, 253, 2], [255, 3], [255, 1, 255, 1],
                 [84, 4, 254, 4], [84, 2, 255, 1], [253, 4, 255, 1], [84, 4, 84, 4, 84, 1])
        for b in wrong:
            rows = ask(*self.calls, *self.state, read(0, b), *self.state, note(0, 6, 2, 60))
            self.assertEqual(rows[-12], [-71], b)
            self.assertEqual(rows[-11:-1], rows[-22:-12], b)
            self.assertEqual(rows[-1], [3], b)

    def test_no_such_player_leaves_all_notes(self):
        rows = ask(*self.calls, *self.state, read(2, [84, 4, 84, 4]), *self.state)
        self.assertEqual(rows[-11], [-2])
        self.assertEqual(rows[-10:], rows[-21:-11])

    def test_answered_takes_all_that_were_there_away(self):
        rows = ask(*self.calls, read(0, [255, 1, 254, 2, 84, 2]), part(0), drop(0, 1), drop(0, 3), drop(0, 6))
        self.assertEqual(rows[-5:], [[1], [0, 255, 1, 254, 2, 84, 2], [-2], [-2], [0]])
        rows = ask(*self.calls, read(0, [255, 2]), part(0), drop(0, 1), note(0, 0, 8, 60))
        self.assertEqual(rows[-4:], [[0], [0, 255, 2], [-2], [1]])

    def test_answered_leaves_the_others_theirs(self):
        rows = ask(*self.calls, part(1), read(0, [255, 2]), part(1), sounds(0))
        self.assertEqual(rows[-2:], [rows[-4], [1, 1, 65]])

    def test_answered_leaves_shift_and_range(self):
        rows = ask(*self.calls, read(0, [84, 4, 255, 1]), note(0, 4, 1, 49), note(0, 4, 1, 71), note(0, 4, 4, 70), part(0))
        self.assertEqual(rows[-5:], [[1], [-34], [-34], [2], [0, 84, 4, 94, 4]])

    def test_a_bar_more_and_it_is_no_part_any_more(self):
        rows = ask(*self.calls, read(0, [84, 4, 253, 4]), bar(1), read(0, [84, 4, 253, 4]), read(0, [84, 4, 253, 4, 255, 1]))
        self.assertEqual(rows[-4:], [[1], [2], [-71], [1]])


class NoSuchPlayer(unittest.TestCase):
    def test_comes_first(self):
        for b in ([84, 4], [], [84], [95, 4], [254, 4]):
            for i in (1, 2, 16, BIG):
                self.assertEqual(last(BEGIN, bar(4), WIDE, read(i, b)), [-2], (i, b))
            self.assertEqual(last(BEGIN, bar(4), read(0, b)), [-2], b)
            self.assertEqual(last(BEGIN, read(0, b)), [-2], b)


def all_notes(ticks, highs):
    """All that one player may have in so many ticks: (start, length, high) of each note."""
    if ticks == 0:
        return [[]]
    found = list(all_notes(ticks - 1, highs))
    for length in range(1, ticks + 1):
        for before in all_notes(ticks - length, highs):
            found += [before + [(ticks - length, length, high)] for high in highs]
    return found


class EveryRow(unittest.TestCase):
    """Of a small score every row of as many pairs as it has ticks, or fewer, with seven heads and every length up to one
    beyond its end: parts alone are read, each as its own notes."""

    def every_part(self, bars, reader, highs):
        parts = {}
        for notes in all_notes(sum(bars), highs):
            calls = [BEGIN, *[bar(length) for length in bars], reader]
            rows = ask(*calls, *[note(0, *one) for one in notes], part(0))
            parts[tuple(rows[-1][1:])] = notes
        self.assertEqual(len(parts), len(all_notes(sum(bars), highs)))
        return parts

    def every_row(self, bars):
        pairs = list(itertools.product((4, 5, 6, 7, 253, 254, 255), range(sum(bars) + 2)))
        for many in range(sum(bars) + 1):
            for row in itertools.product(pairs, repeat=many):
                yield tuple(number for pair in row for number in pair)

    def test_every_row(self):
        # What sounds 3 or 4 high is written as 5 or 6: 4 and 7 are out of the range.
        reader = player(-22, 3, 4)
        for bars in ([], [1], [2], [1, 1], [3], [2, 1], [1, 2], [1, 1, 1]):
            parts = self.every_part(bars, reader, (3, 4))
            calls = [BEGIN, *[bar(length) for length in bars], reader]
            rows = list(self.every_row(bars))
            self.assertTrue(set(parts) <= set(rows))
            for first in range(0, len(rows), 2500):
                some = rows[first:first + 2500]
                given = ask(*calls, *[read(0, b) for b in some])[len(calls):]
                want = [[len(parts[b])] if b in parts else [-71] for b in some]
                self.assertTrue(given == want, bars)

    def test_every_part(self):
        reader = player(-22, 3, 4)
        for bars in ([2, 2], [1, 2, 1], [4], [1, 1, 1, 1], [3, 1]):
            calls = [BEGIN, *[bar(length) for length in bars], reader]
            for b, notes in self.every_part(bars, reader, (3, 4)).items():
                rows = ask(*calls, read(0, b), part(0), *[drop(0, start) for start, _, _ in notes])[len(calls):]
                self.assertEqual(rows, [[len(notes)], [0, *b]] + [[k] for k in reversed(range(len(notes)))])


if __name__ == "__main__":
    unittest.main()

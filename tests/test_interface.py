"""The interface: how a list of calls is read, and what is given back."""

import time
import unittest

from asking import (BEGIN, WIDE, ask, bar, drop, joined, move, note, pages, parallels, part, player, read, sounds,
                    taken_apart)
from partscores.desk import answers


class Untouchable(list):
    """A list that tells if it is changed, even for a while."""

    def refuse(self, *given, **named):
        raise AssertionError("what was handed in is changed")

    __setitem__ = __delitem__ = __iadd__ = __imul__ = refuse
    append = extend = insert = pop = remove = clear = sort = reverse = refuse


def some_calls():
    return joined([
        BEGIN, bar(4), bar(0), bar(3), player(2, 50, 70), player(0, 1, 0), note(0, 1, 4, 60), note(0, 2, 1, 60),
        note(0, 6, 1, 50), part(0), drop(0, 1), drop(0, 1), part(0), part(1), WIDE, read(1, []), read(1, [84, 4, 253, 3]),
        pages(1, 2, 0), pages(1, 1, 0), pages(1, 1, 1), pages(2, 1, 1), sounds(6), sounds(0), sounds(7), move(20), move(21),
        sounds(6), parallels(0, 1), parallels(1, 1), parallels(1, 2), BEGIN, part(0), pages(0, 0, 0), read(0, [255, 2]),
    ])


SOME_ANSWERS = [
    1, 0, 1, 0, 1, -22, 1, 1, 1, 0, 1, -22, 1, 1, 1, -17,
    1, 2, 11, 0, 254, 1, 86, 3, 253, 1, 254, 1, 76, 1, 1, 1, 1, -2, 7, 0, 255, 1, 254, 2, 76, 1, 1, -2, 1, 1, 1, -71, 1, 1,
    2, 1, 2, 3, 2, 1, 2, 1, -33, 1, -2, 5, 2, 0, 50, 1, 60, 3, 1, 1, 60, 1, -2, 1, 0, 1, -34,
    5, 2, 0, 70, 1, 80, 1, 0, 1, -22, 1, -2, 1, 0, 1, -2, 1, -2, 1, -2,
]


def the_most():
    """64 bars of 64 ticks, and 16 players with 256 notes each, a tick of rest ahead of each note."""
    calls = [BEGIN] + [bar(64)] * 64 + [WIDE] * 16
    rows = [joined([(254, 1, 60 + 7 * (i % 2) + k % 5, 15) for k in range(256)]) for i in range(16)]
    return calls + [read(i, rows[i]) for i in range(16)]


class Answers(unittest.TestCase):
    def test_of_one_call(self):
        self.assertEqual(answers([0]), [1, 0])

    def test_of_several_calls(self):
        calls = [0, 1, 4, 2, -1, 50, 70, 3, 0, 1, 2, 60, 5, 0, 5, 1, 4, 0, 1, 5, 0]
        want = [1, 0, 1, 0, 1, 0, 1, 1, 7, 0, 254, 1, 83, 2, 254, 1, 1, -2, 1, 0, 3, 0, 255, 1]
        self.assertEqual(answers(calls), want)

    def test_a_part_without_bars_is_one_number(self):
        self.assertEqual(answers([0, 2, 0, 0, 127, 5, 0]), [1, 0, 1, 0, 1, 0])

    def test_a_refused_part_is_one_number(self):
        self.assertEqual(answers([0, 1, 4, 5, 0]), [1, 0, 1, 0, 1, -2])

    def test_of_many_kinds_of_calls(self):
        self.assertEqual(answers(some_calls()), SOME_ANSWERS)

    def test_numbers_that_look_like_calls_are_read_as_numbers(self):
        calls = [0, 1, 5, 1, 1, 2, 0, 0, 5, 3, 0, 3, 3, 3, 4, 0, 4, 5, 0]
        want = [1, 0, 1, 0, 1, 1, 1, 0, 1, 1, 1, -2, 7, 0, 254, 3, 27, 2, 253, 1]
        self.assertEqual(answers(calls), want)

    def test_gives_back_a_list_of_whole_numbers(self):
        given = answers(some_calls())
        self.assertIs(type(given), list)
        self.assertEqual({type(number) for number in given}, {int})

    def test_what_is_handed_in_stays_the_same(self):
        calls = some_calls()
        answers(calls)
        self.assertEqual(calls, some_calls())

    def test_what_is_handed_in_is_not_changed_for_a_while_either(self):
        self.assertEqual(answers(Untouchable(some_calls())), SOME_ANSWERS)

    def test_a_second_time_gives_the_same(self):
        calls = some_calls()
        first = answers(calls)
        kept = list(first)
        first.clear()
        self.assertEqual(answers(calls), kept)
        self.assertEqual(answers(calls), kept)

    def test_nothing_is_kept_from_one_time_to_the_next(self):
        answers(joined([BEGIN, bar(4), WIDE, note(0, 0, 4, 60)]))
        self.assertEqual(answers([0, 5, 0]), [1, 0, 1, -2])
        self.assertEqual(answers([0, 1, 4, 2, 0, 0, 127, 5, 0]), [1, 0, 1, 0, 1, 0, 3, 0, 255, 1])

    def test_as_many_calls_as_there_may_be(self):
        calls = [BEGIN, WIDE] + [bar(64)] * 64 + [note(0, 16 * k, 16, 60) for k in range(256)]
        calls += [drop(0, 0), note(0, 0, 16, 60)] * 1338 + [drop(0, 16), part(0)]
        self.assertEqual(len(calls), 3000)
        given = answers(joined(calls))
        row = [0, 84, 16, 254, 16] + [84, 16] * 254
        self.assertEqual(given[-len(row) - 1:], [len(row)] + row)
        self.assertEqual(len(given), 2 * 2999 + len(row) + 1)

    def test_as_many_answers_as_there_may_be(self):
        calls = [BEGIN, WIDE] + [bar(64)] * 64 + [note(0, 16 * k + 1, 15, 60) for k in range(256)]
        calls += [part(0)] * 970
        given = answers(joined(calls))
        row = [0] + [254, 1, 84, 15] * 256
        # Not assertEqual: to show how two such long lists differ would take it hours.
        self.assertTrue(given[-970 * (len(row) + 1):] == ([len(row)] + row) * 970)


class Read(unittest.TestCase):
    def test_an_empty_row_ahead_of_another_call(self):
        self.assertEqual(answers([0, 2, 0, 0, 127, 6, 0, 0, 1, 4, 5, 0]), [1, 0, 1, 0, 1, 0, 1, 0, 3, 0, 255, 1])
        self.assertEqual(answers([0, 1, 4, 2, 0, 0, 127, 6, 0, 0, 6, 0, 0, 8, 3]), [1, 0, 1, 0, 1, 0, 1, -71, 1, -71, 1, 0])

    def test_a_refused_row_is_passed_by(self):
        calls = [0, 1, 4, 6, 0, 3, 1, 1, 1, 1, 5, 6, 9, 0, 1, 6]
        self.assertEqual(answers(calls), [1, 0, 1, 0, 1, -2, 1, 1, 1, -2, 1, 2])

    def test_a_row_that_looks_like_calls(self):
        calls = [0, 1, 9, 2, -24, 0, 9, 6, 0, 10, 1, 1, 2, 1, 3, 1, 8, 5, 254, 1, 8, 7, 6, 0, 2, 255, 1, 8, 7]
        self.assertEqual(answers(calls), [1, 0, 1, 0, 1, 0, 1, 4, 3, 1, 0, 8, 1, 0, 1, 0])

    def test_as_the_last_call(self):
        self.assertEqual(answers([0, 1, 4, 2, 0, 0, 127, 6, 0, 2, 84, 4]), [1, 0, 1, 0, 1, 0, 1, 1])
        self.assertEqual(answers([0, 2, 0, 0, 127, 6, 0, 0]), [1, 0, 1, 0, 1, 0])


class TheMost(unittest.TestCase):
    def asked(self, calls, want):
        """What is answered to the calls behind the most there may be, within a short time."""
        numbers = joined(the_most() + calls)
        self.assertLessEqual(len(numbers), 30000)
        begun = time.perf_counter()
        given = answers(numbers)
        self.assertLess(time.perf_counter() - begun, 10)
        self.assertLess(len(given), 1000000)
        rows = taken_apart(given)
        self.assertEqual(rows[81:97], [[256]] * 16)
        # Not assertEqual: to show how two such long lists differ would take it hours.
        self.assertTrue(rows[97:] == want)

    def test_a_row_as_long_as_may_be(self):
        self.asked([read(0, [84, 1] * 2000), read(1, [255, 1] * 2000), part(0)], [
            [-71], [-71], [0] + joined([(254, 1, 60 + k % 5, 15) for k in range(256)]),
        ])

    def test_pages(self):
        self.asked([pages(15, 8, 1), pages(15, 512, 2)] * 1400, [[64] + list(range(1, 65)), [1, 64]] * 1400)

    def test_sounds(self):
        want = [number for i in range(16) for number in (i, 36 + 7 * (i % 2))]
        self.asked([sounds(4095 - 15), sounds(4095), sounds(4096)] * 960, [[0], [16] + want, [-2]] * 960)

    def test_move(self):
        self.asked([move(50), move(50), move(-50)] * 960, [[0], [-34], [0]] * 960)

    def test_parallels(self):
        # No note begins right behind another, until those of two players are read anew.
        rows = [joined([(60 + 7 * i + k % 2, 16) for k in range(256)]) for i in range(2)]
        self.asked([parallels(0, 1), read(0, rows[0]), read(1, rows[1])] + [parallels(0, 1)] * 2800,
                   [[0], [256], [256]] + [[255]] * 2800)

    def test_each_call(self):
        rows = ask(*the_most(), bar(1), WIDE, note(0, 0, 1, 60), drop(0, 1), note(0, 0, 1, 36), part(0), read(0, [255, 64]),
                   pages(0, 1, 4096), sounds(0), move(1), sounds(1), parallels(14, 15), BEGIN)[97:]
        part_of_0 = [0, 60, 1, 254, 16, 61, 15] + joined([(254, 1, 60 + k % 5, 15) for k in range(2, 256)])
        heard = [number for i in range(1, 16) for number in (i, 37 + 7 * (i % 2))]
        self.assertEqual(rows, [[-28], [-28], [-28], [255], [256], part_of_0, [0], [1, 64], [0], [0], [15] + heard, [0], [0]])


if __name__ == "__main__":
    unittest.main()

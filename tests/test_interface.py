"""The interface: how a list of calls is read, and what is given back."""

import unittest

from asking import BEGIN, WIDE, bar, drop, joined, note, part, player
from partscores.desk import answers


class Untouchable(list):
    """A list that tells if it is changed, even for a while."""

    def refuse(self, *given, **named):
        raise AssertionError("what was handed in is changed")

    __setitem__ = __delitem__ = __iadd__ = __imul__ = refuse
    append = extend = insert = pop = remove = clear = sort = reverse = refuse


def some_calls():
    return joined([
        BEGIN, bar(4), bar(0), bar(3), player(2, 50, 70), player(0, 1, 0), note(0, 1, 4, 60), note(0, 2, 1, 60),
        note(0, 6, 1, 50), part(0), drop(0, 1), drop(0, 1), part(0), part(1), BEGIN, part(0),
    ])


SOME_ANSWERS = [
    1, 0, 1, 0, 1, -22, 1, 1, 1, 0, 1, -22, 1, 1, 1, -17,
    1, 2, 11, 0, 254, 1, 86, 3, 253, 1, 254, 1, 76, 1, 1, 1, 1, -2, 7, 0, 255, 1, 254, 2, 76, 1, 1, -2, 1, 0, 1, -2,
]


class Answers(unittest.TestCase):
    def test_of_one_call(self):
        self.assertEqual(answers([0]), [1, 0])

    def test_of_several_calls(self):
        calls = [0, 1, 4, 2, -1, 50, 70, 3, 0, 1, 2, 60, 5, 0, 5, 1, 4, 0, 1, 5, 0]
        want = [1, 0, 1, 0, 1, 0, 1, 1, 7, 0, 254, 1, 83, 2, 254, 1, 1, -2, 1, 0, 3, 0, 255, 1]
        self.assertEqual(answers(calls), want)

    def test_a_part_without_bars_is_one_number(self):
        self.assertEqual(answers([0, 2, 0, 0, 127, 5, 0]), [1, 0, 1, 0, 1, 0])

    def test_a_refused_part_is_one_number(self):
        self.assertEqual(answers([0, 1, 4, 5, 0]), [1, 0, 1, 0, 1, -2])

    def test_of_many_kinds_of_calls(self):
        self.assertEqual(answers(some_calls()), SOME_ANSWERS)

    def test_numbers_that_look_like_calls_are_read_as_numbers(self):
        calls = [0, 1, 5, 1, 1, 2, 0, 0, 5, 3, 0, 3, 3, 3, 4, 0, 4, 5, 0]
        want = [1, 0, 1, 0, 1, 1, 1, 0, 1, 1, 1, -2, 7, 0, 254, 3, 27, 2, 253, 1]
        self.assertEqual(answers(calls), want)

    def test_gives_back_a_list_of_whole_numbers(self):
        given = answers(some_calls())
        self.assertIs(type(given), list)
        self.assertEqual({type(number) for number in given}, {int})

    def test_what_is_handed_in_stays_the_same(self):
        calls = some_calls()
        answers(calls)
        self.assertEqual(calls, some_calls())

    def test_what_is_handed_in_is_not_changed_for_a_while_either(self):
        self.assertEqual(answers(Untouchable(some_calls())), SOME_ANSWERS)

    def test_a_second_time_gives_the_same(self):
        calls = some_calls()
        first = answers(calls)
        kept = list(first)
        first.clear()
        self.assertEqual(answers(calls), kept)
        self.assertEqual(answers(calls), kept)

    def test_nothing_is_kept_from_one_time_to_the_next(self):
        answers(joined([BEGIN, bar(4), WIDE, note(0, 0, 4, 60)]))
        self.assertEqual(answers([0, 5, 0]), [1, 0, 1, -2])
        self.assertEqual(answers([0, 1, 4, 2, 0, 0, 127, 5, 0]), [1, 0, 1, 0, 1, 0, 3, 0, 255, 1])

    def test_as_many_calls_as_there_may_be(self):
        calls = [BEGIN, WIDE] + [bar(64)] * 64 + [note(0, 16 * k, 16, 60) for k in range(256)]
        calls += [drop(0, 0), note(0, 0, 16, 60)] * 1338 + [drop(0, 16), part(0)]
        self.assertEqual(len(calls), 3000)
        given = answers(joined(calls))
        row = [0, 84, 16, 254, 16] + [84, 16] * 254
        self.assertEqual(given[-len(row) - 1:], [len(row)] + row)
        self.assertEqual(len(given), 2 * 2999 + len(row) + 1)

    def test_as_many_answers_as_there_may_be(self):
        calls = [BEGIN, WIDE] + [bar(64)] * 64 + [note(0, 16 * k + 1, 15, 60) for k in range(256)]
        calls += [part(0)] * 970
        given = answers(joined(calls))
        row = [0] + [254, 1, 84, 15] * 256
        # Not assertEqual: to show how two such long lists differ would take it hours.
        self.assertTrue(given[-970 * (len(row) + 1):] == ([len(row)] + row) * 970)


if __name__ == "__main__":
    unittest.main()

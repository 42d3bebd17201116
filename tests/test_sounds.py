"""Point 6: sounds."""

import unittest

from asking import BEGIN, WIDE, ask, bar, drop, last, move, note, part, player, read, sounds

BIG = 4294967295


class Where(unittest.TestCase):
    def test_no_bars(self):
        for t in (0, 1, BIG):
            self.assertEqual(last(BEGIN, sounds(t)), [-2])
            self.assertEqual(last(BEGIN, WIDE, sounds(t)), [-2])

    def test_the_last_tick_and_the_one_behind_it(self):
        two = [BEGIN, bar(4), bar(3), WIDE, note(0, 3, 4, 60)]
        self.assertEqual(ask(*two, sounds(6), sounds(7), sounds(8))[-3:], [[1, 0, 60], [-2], [-2]])

    def test_the_last_tick_and_the_one_behind_it_where_none_sounds(self):
        self.assertEqual(ask(BEGIN, bar(4), sounds(3), sounds(4))[-2:], [[0], [-2]])
        self.assertEqual(ask(BEGIN, bar(1), WIDE, sounds(0), sounds(1))[-2:], [[0], [-2]])

    def test_as_big_as_may_be(self):
        self.assertEqual(last(BEGIN, *[bar(64)] * 64, WIDE, note(0, 0, 4096, 60), sounds(BIG)), [-2])

    def test_the_most_bars(self):
        most = [BEGIN, *[bar(64)] * 64, WIDE, note(0, 0, 4096, 60)]
        self.assertEqual(ask(*most, sounds(4095), sounds(4096))[-2:], [[1, 0, 60], [-2]])

    def test_a_bar_more(self):
        rows = ask(BEGIN, bar(4), WIDE, sounds(4), bar(1), sounds(4), sounds(5), BEGIN, sounds(0))
        self.assertEqual([rows[3]] + rows[5:], [[-2], [0], [-2], [0], [-2]])


class Who(unittest.TestCase):
    def test_no_player(self):
        self.assertEqual(last(BEGIN, bar(4), sounds(0)), [0])

    def test_no_player_sounds(self):
        self.assertEqual(last(BEGIN, bar(4), WIDE, WIDE, note(0, 0, 1, 60), note(1, 3, 1, 60), sounds(1)), [0])

    def test_one(self):
        self.assertEqual(last(BEGIN, bar(4), WIDE, WIDE, WIDE, note(1, 0, 4, 60), sounds(2)), [1, 1, 60])

    def test_several_by_their_numbers(self):
        calls = [BEGIN, bar(4), *[WIDE] * 5, note(4, 0, 4, 50), note(0, 1, 2, 70), note(2, 2, 2, 60), note(3, 3, 1, 61)]
        self.assertEqual(ask(*calls, *[sounds(t) for t in range(4)])[-4:], [
            [1, 4, 50], [2, 0, 70, 4, 50], [3, 0, 70, 2, 60, 4, 50], [3, 2, 60, 3, 61, 4, 50],
        ])

    def test_all_there_may_be(self):
        calls = [BEGIN, bar(4), *[WIDE] * 16, *[note(i, 0, 4, 100 - i) for i in range(16)]]
        self.assertEqual(last(*calls, sounds(3)), [16] + [number for i in range(16) for number in (i, 100 - i)])

    def test_as_it_sounds_not_as_it_is_written(self):
        calls = [BEGIN, bar(4), player(-24, 0, 127), player(24, 0, 127), note(0, 0, 4, 60), note(1, 0, 4, 61)]
        self.assertEqual(last(*calls, sounds(0)), [2, 0, 60, 1, 61])

    def test_the_lowest_and_the_highest(self):
        self.assertEqual(last(BEGIN, bar(4), WIDE, WIDE, note(0, 0, 4, 0), note(1, 0, 4, 127), sounds(0)), [2, 0, 0, 1, 127])


class When(unittest.TestCase):
    def test_the_first_tick_and_the_last_one(self):
        calls = [BEGIN, bar(9), WIDE, note(0, 3, 3, 60)]
        self.assertEqual(ask(*calls, *[sounds(t) for t in range(9)])[-9:], [[0]] * 3 + [[1, 0, 60]] * 3 + [[0]] * 3)

    def test_a_note_of_one_tick(self):
        calls = [BEGIN, bar(4), WIDE, note(0, 1, 1, 60)]
        self.assertEqual(ask(*calls, *[sounds(t) for t in range(4)])[-4:], [[0], [1, 0, 60], [0], [0]])

    def test_notes_that_touch(self):
        calls = [BEGIN, bar(4), WIDE, note(0, 2, 2, 61), note(0, 0, 2, 60)]
        self.assertEqual(ask(*calls, *[sounds(t) for t in range(4)])[-4:], [[1, 0, 60]] * 2 + [[1, 0, 61]] * 2)

    def test_over_a_bars_end(self):
        calls = [BEGIN, bar(2), bar(1), bar(3), WIDE, note(0, 1, 3, 60)]
        self.assertEqual(ask(*calls, *[sounds(t) for t in range(6)])[-6:], [[0]] + [[1, 0, 60]] * 3 + [[0]] * 2)

    def test_each_of_many_notes(self):
        for many in range(1, 20):
            calls = [BEGIN, bar(64), WIDE] + [note(0, 3 * k + 1, 2, 60 + k) for k in range(many)]
            want = [[1, 0, 60 + t // 3] if t % 3 and t < 3 * many else [0] for t in range(64)]
            self.assertEqual(ask(*calls, *[sounds(t) for t in range(64)])[-64:], want)

    def test_behind_drop_read_and_move(self):
        calls = [BEGIN, bar(4), WIDE, note(0, 0, 2, 60), note(0, 2, 2, 62)]
        rows = ask(*calls, drop(0, 0), sounds(0), read(0, [90, 1, 254, 3]), sounds(0), sounds(2), move(-3), sounds(0))
        self.assertEqual(rows[-7:], [[1], [0], [1], [1, 0, 66], [0], [0], [1, 0, 63]])

    def test_changes_nothing(self):
        calls = [BEGIN, bar(4), WIDE, note(0, 1, 2, 60)]
        rows = ask(*calls, part(0), sounds(1), sounds(9), sounds(1), part(0), note(0, 3, 1, 60), bar(1), WIDE)
        self.assertEqual(rows[4:], [[0, 254, 1, 84, 2, 254, 1], [1, 0, 60], [-2], [1, 0, 60],
                                    [0, 254, 1, 84, 2, 254, 1], [2], [1], [1]])


if __name__ == "__main__":
    unittest.main()

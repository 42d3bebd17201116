"""Point 7: move; and that moved and moved back all is as it was."""

import random
import unittest

from asking import BEGIN, WIDE, ask, bar, drop, last, move, note, parallels, part, player, sounds

LEAST = -2147483648
MOST = 2147483647


class Moved(unittest.TestCase):
    def setUp(self):
        self.calls = [BEGIN, bar(4), bar(4), player(2, 50, 70), player(-3, 20, 90), WIDE]
        self.calls += [note(0, 0, 2, 60), note(0, 3, 2, 65), note(1, 2, 4, 40)]

    def test_up(self):
        rows = ask(*self.calls, move(3), part(0), part(1), part(2), sounds(3))
        self.assertEqual(rows[-5:], [
            [0], [0, 89, 2, 254, 1, 94, 1, 253, 1, 254, 3], [0, 254, 2, 64, 2, 253, 2, 254, 2], [0, 255, 2],
            [2, 0, 68, 1, 43],
        ])

    def test_down(self):
        rows = ask(*self.calls, move(-4), part(0), part(1), part(2), sounds(3))
        self.assertEqual(rows[-5:], [
            [0], [0, 82, 2, 254, 1, 87, 1, 253, 1, 254, 3], [0, 254, 2, 57, 2, 253, 2, 254, 2], [0, 255, 2],
            [2, 0, 61, 1, 36],
        ])

    def test_by_0(self):
        state = [part(0), part(1), part(2)] + [sounds(t) for t in range(8)]
        rows = ask(*self.calls, *state, move(0), *state)
        self.assertEqual(rows[-12], [0])
        self.assertEqual(rows[-11:], rows[-23:-12])

    def test_several_times(self):
        rows = ask(*self.calls, move(1), move(2), move(-5), move(3), sounds(0), sounds(3))
        self.assertEqual(rows[-6:], [[0], [0], [0], [0], [1, 0, 61], [2, 0, 66, 1, 41]])

    def test_moved_notes_end_and_begin_where_they_did(self):
        rows = ask(*self.calls, move(5), note(0, 4, 1, 60), note(0, 5, 1, 60), drop(0, 3), drop(0, 0), drop(1, 2))
        self.assertEqual(rows[-6:], [[0], [-17], [3], [2], [1], [0]])

    def test_later_notes_are_not_moved(self):
        rows = ask(*self.calls, move(5), note(2, 0, 8, 60), sounds(0))
        self.assertEqual(rows[-3:], [[0], [1], [2, 0, 65, 2, 60]])

    def test_the_range_stays(self):
        rows = ask(*self.calls, move(5), note(0, 6, 1, 71), note(0, 6, 1, 49), note(0, 6, 1, 70), note(0, 7, 1, 50))
        self.assertEqual(rows[-5:], [[0], [-34], [-34], [3], [4]])


class NoNotes(unittest.TestCase):
    def test_nothing_at_all(self):
        for k in (0, 1, -1, LEAST, MOST):
            self.assertEqual(last(BEGIN, move(k)), [0], k)
            self.assertEqual(last(BEGIN, bar(4), move(k)), [0], k)

    def test_players_without_notes(self):
        for k in (0, 1, -1, 128, -128, LEAST, MOST):
            rows = ask(BEGIN, bar(4), player(0, 60, 60), WIDE, move(k), note(0, 0, 4, 60), part(0))
            self.assertEqual(rows[-3:], [[0], [1], [0, 84, 4]], k)

    def test_one_that_is_gone_does_not_matter(self):
        self.assertEqual(last(BEGIN, bar(4), player(0, 60, 60), note(0, 0, 4, 60), drop(0, 0), move(1)), [0])


class OutOfRange(unittest.TestCase):
    def setUp(self):
        # Of the several notes one of player 1 is the first to leave its range: at both ends.
        self.calls = [BEGIN, bar(8), WIDE, player(0, 50, 70), player(0, 10, 100), note(0, 0, 8, 60), note(2, 0, 8, 60)]
        self.calls += [note(1, 0, 1, 60), note(1, 2, 1, 66), note(1, 4, 1, 53), note(1, 6, 1, 61)]

    def test_both_ends(self):
        for k, want in ((-4, -34), (-3, 0), (-2, 0), (3, 0), (4, 0), (5, -34), (60, -34), (-60, -34)):
            self.assertEqual(last(*self.calls, move(k)), [want], k)

    def test_nothing_is_moved(self):
        state = [part(0), part(1), part(2)] + [sounds(t) for t in range(8)]
        for k in (-4, 5, LEAST, MOST):
            rows = ask(*self.calls, *state, move(k), *state)
            self.assertEqual(rows[-12], [-34], k)
            self.assertEqual(rows[-11:], rows[-23:-12], k)

    def test_of_the_first_and_of_the_last_player(self):
        for i in range(3):
            calls = [BEGIN, bar(8)] + [player(0, 50, 70) if i == j else WIDE for j in range(3)]
            calls += [note(j, 0, 8, 60) for j in range(3)]
            rows = ask(*calls, move(11), sounds(0), move(-11), sounds(0), move(10), sounds(0), move(-20), sounds(0))
            self.assertEqual(rows[-8::2], [[-34], [-34], [0], [0]], i)
            self.assertEqual(rows[-7::2], [[3, 0, high, 1, high, 2, high] for high in (60, 60, 70, 50)], i)

    def test_the_widest_range(self):
        for high, k, want in ((0, -1, -34), (0, 127, 0), (0, 128, -34), (127, 1, -34), (127, -127, 0), (127, -128, -34)):
            self.assertEqual(last(BEGIN, bar(4), WIDE, note(0, 0, 4, high), move(k)), [want], (high, k))

    def test_the_range_is_of_what_sounds_not_of_what_is_written(self):
        for shift in (-24, 24):
            for k, want in ((-11, -34), (-10, 0), (10, 0), (11, -34)):
                self.assertEqual(last(BEGIN, bar(4), player(shift, 50, 70), note(0, 0, 4, 60), move(k)), [want])

    def test_as_big_and_as_small_as_may_be(self):
        for high in (0, 60, 127):
            for k in (LEAST, MOST, LEAST + 1, MOST - 127):
                self.assertEqual(last(BEGIN, bar(4), WIDE, note(0, 0, 4, high), move(k)), [-34], (high, k))


class ThereAndBack(unittest.TestCase):
    def test_many(self):
        parallel = 0
        for seed in range(200):
            chance = random.Random(seed)
            calls = [BEGIN, bar(5), bar(4)] + [player(chance.randint(-24, 24), 20, 107) for _ in range(3)]
            calls += [note(i, t, 1, chance.choice((48, 55, 60, 67, 72))) for i in range(3) for t in range(9)]
            calls += [drop(i, chance.randint(0, 8)) for i in range(3)]
            counts = [parallels(i, j) for i in range(3) for j in range(3)]
            state = [part(i) for i in range(3)] + [sounds(t) for t in range(9)] + counts
            k = chance.randint(-28, 35)
            rows = ask(*calls, *state, move(k), *counts, move(-k), *state)[len(calls):]
            self.assertEqual([rows[21], rows[31]], [[0], [0]])
            self.assertEqual(rows[22:31], rows[12:21])
            self.assertEqual(rows[32:], rows[:21])
            parallel += sum(row[0] > 0 for row in rows[12:21])
        self.assertGreater(parallel, 200)


if __name__ == "__main__":
    unittest.main()

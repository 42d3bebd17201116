"""Many lists of calls, held against a slow score that knows of each tick what sounds at it."""

import random
import unittest

from asking import (bar, drop, joined, move, note, pages, parallels, part, player, read, sounds, taken_apart)
from partscores.desk import answers
from slow import SlowScore

KINDS = """
bar bar player note note note note note note drop part read read pages pages sounds sounds move parallels parallels
""".split()


def some_number(chance, most):
    return chance.choice([chance.randint(0, most)] * 9 + [0, most, 4294967295])


def some_row(chance, slow):
    """The part of some player, or nearly."""
    row = slow.part(chance.randint(0, len(slow.players) - 1))[1:] if slow.players else [255, slow.bars]
    if chance.random() < 0.5 or not row:
        return row
    k = chance.randrange(len(row))
    changed = chance.choice([chance.choice([0, 1, 2, 24, 60, 253, 254, 255]), row[k] ^ 1])
    return chance.choice([
        row[:k] + [changed] + row[k + 1:],
        row[:k] + row[k + 1:],
        row[:k // 2 * 2] + row[k // 2 * 2 + 2:],
        row[:k // 2 * 2] + row[k // 2 * 2:k // 2 * 2 + 2] + row[k // 2 * 2:],
        row[:k // 2 * 2] + [changed, chance.randint(0, 4)] + row[k // 2 * 2:],
    ])


def some_call(chance, slow):
    kind = chance.choice(KINDS)
    i = some_number(chance, 3)
    if kind == "bar":
        return bar(chance.choice([1, 2, 3, 4, 5, 0, 65]))
    if kind == "player":
        return player(chance.randint(-25, 25), chance.randint(0, 20), chance.choice([15, 60, 127, 128]))
    if kind == "note":
        return note(i, some_number(chance, 30), some_number(chance, 9), some_number(chance, 70))
    if kind == "drop":
        return drop(i, some_number(chance, 20))
    if kind == "read":
        return read(i, some_row(chance, slow))
    if kind == "pages":
        return pages(i, some_number(chance, 12), some_number(chance, 6))
    if kind == "sounds":
        return sounds(some_number(chance, 40))
    if kind == "move":
        return move(chance.choice([chance.randint(-9, 9)] * 9 + [-2147483648, 2147483647]))
    if kind == "parallels":
        return parallels(i, some_number(chance, 3))
    return part(i)


class TickByTick(unittest.TestCase):
    def hold(self, seed, calls, want):
        given = taken_apart(answers(joined(calls)))
        for call, one, other in zip(calls, given, want):
            self.assertEqual(one, other, (seed, call))
        self.assertEqual(len(given), len(want), seed)

    def test_many_lists(self):
        for seed in range(300):
            chance = random.Random(seed)
            slow = SlowScore()
            calls = [[0], bar(4), bar(3), player(2, 0, 127)]
            want = [slow.asked(call) for call in calls]
            for k in range(80):
                calls.append([0] if k == 60 and chance.random() < 0.5 else some_call(chance, slow))
                want.append(slow.asked(calls[-1]))
            calls += [part(0), part(1)]
            want += [slow.part(0), slow.part(1)]
            self.hold(seed, calls, want)

    def test_many_parallels(self):
        some = 0
        for seed in range(300):
            chance = random.Random(seed)
            slow = SlowScore()
            calls = [[0], bar(5), bar(6), player(0, 0, 127), player(7, 0, 127), player(-1, 0, 127)]
            for i in range(3):
                highs = (60, 67, 72) if chance.random() < 0.7 else (48, 53, 55, 60, 62, 67, 74, 79)
                start = 0
                while start < 11:
                    length = chance.choice([1, 1, 1, 2, 3])
                    if chance.random() < 0.85:
                        calls.append(note(i, start, length, chance.choice(highs)))
                    start += length
            calls += [parallels(i, j) for i in range(4) for j in range(4)]
            want = [slow.asked(call) for call in calls]
            self.hold(seed, calls, want)
            some += sum(answered[0] > 0 for answered in want[-16:])
        self.assertGreater(some, 300)


if __name__ == "__main__":
    unittest.main()

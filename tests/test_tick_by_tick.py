"""Many lists of calls, held against a slow score that knows of each tick what sounds at it."""

import random
import unittest

from asking import bar, drop, joined, note, part, player, taken_apart
from partscores.desk import answers


class SlowScore:
    def __init__(self):
        self.ticks = []
        self.bars = 0
        self.players = []

    def begin(self):
        self.__init__()
        return [0]

    def bar(self, length):
        if not 1 <= length <= 64:
            return [-22]
        if self.bars == 64:
            return [-28]
        self.ticks += [self.bars] * length
        self.bars += 1
        return [self.bars - 1]

    def player(self, shift, low, top):
        if shift not in range(-24, 25) or low > top or top > 127:
            return [-22]
        if len(self.players) == 16:
            return [-28]
        self.players.append((shift, low, top, {}))
        return [len(self.players) - 1]

    def note(self, i, start, length, high):
        if i >= len(self.players):
            return [-2]
        low, top, notes = self.players[i][1:]
        if length == 0 or start + length > len(self.ticks):
            return [-22]
        if high not in range(low, top + 1):
            return [-34]
        if any(self.begun(i, t) is not None for t in range(start, start + length)):
            return [-17]
        if len(notes) == 256:
            return [-28]
        notes[start] = (length, high)
        return [len(notes)]

    def drop(self, i, start):
        if i >= len(self.players) or start not in self.players[i][3]:
            return [-2]
        del self.players[i][3][start]
        return [len(self.players[i][3])]

    def begun(self, i, tick):
        """When the note began that sounds at the tick, or None."""
        for start, (length, _) in self.players[i][3].items():
            if start <= tick < start + length:
                return start
        return None

    def part(self, i):
        if i >= len(self.players):
            return [-2]
        row = []
        empty = 0
        for number in range(self.bars):
            heads = self.heads(i, [t for t, b in enumerate(self.ticks) if b == number])
            if [head for head, _ in heads] == [254]:
                empty += 1
                continue
            row += [255, empty] if empty else []
            empty = 0
            row += joined(heads)
        return [0] + row + ([255, empty] if empty else [])

    def heads(self, i, ticks):
        heads = []
        before = "nothing"
        for tick in ticks:
            begun = self.begun(i, tick)
            if begun == before:
                heads[-1][1] += 1
                continue
            before = begun
            if begun is None:
                heads.append([254, 1])
            elif begun < ticks[0]:
                heads.append([253, 1])
            else:
                heads.append([self.players[i][3][begun][1] + self.players[i][0] + 24, 1])
        return heads


def some_number(chance, most):
    return chance.choice([chance.randint(0, most)] * 9 + [0, most, 4294967295])


def some_call(chance):
    kind = chance.choice("bar bar player note note note note note drop part".split())
    i = some_number(chance, 3)
    if kind == "bar":
        return bar(chance.choice([1, 2, 3, 4, 5, 0, 65]))
    if kind == "player":
        return player(chance.randint(-25, 25), chance.randint(0, 20), chance.choice([15, 60, 127, 128]))
    if kind == "note":
        return note(i, some_number(chance, 30), some_number(chance, 9), some_number(chance, 70))
    if kind == "drop":
        return drop(i, some_number(chance, 20))
    return part(i)


class TickByTick(unittest.TestCase):
    def test_many_lists(self):
        names = ("begin", "bar", "player", "note", "drop", "part")
        for seed in range(300):
            chance = random.Random(seed)
            calls = [[0], bar(4), bar(3), player(2, 0, 127)] + [some_call(chance) for _ in range(60)]
            calls += [[0]] * chance.randint(0, 1) + [some_call(chance) for _ in range(20)] + [part(0), part(1)]
            slow = SlowScore()
            want = [getattr(slow, names[call[0]])(*call[1:]) for call in calls]
            self.assertEqual(taken_apart(answers(joined(calls))), want, seed)


if __name__ == "__main__":
    unittest.main()

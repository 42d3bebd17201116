"""A slow score that knows of each tick what sounds at it, and goes through ticks, or through all there may be."""

import itertools

from asking import joined

NAMES = ("begin", "bar", "player", "note", "drop", "part", "read", "pages", "sounds", "move", "parallels")


class Wrong(Exception):
    pass


class SlowScore:
    def __init__(self):
        self.ticks = []
        self.bars = 0
        self.players = []

    def asked(self, call):
        """What is answered to one call, as asking.py writes it."""
        if call[0] == 6:
            return self.read(call[1], call[3:])
        return getattr(self, NAMES[call[0]])(*call[1:])

    def begin(self):
        self.__init__()
        return [0]

    def bar(self, length):
        if not 1 <= length <= 64:
            return [-22]
        if self.bars == 64:
            return [-28]
        self.ticks += [self.bars] * length
        self.bars += 1
        return [self.bars - 1]

    def player(self, shift, low, top):
        if shift not in range(-24, 25) or low > top or top > 127:
            return [-22]
        if len(self.players) == 16:
            return [-28]
        self.players.append((shift, low, top, {}))
        return [len(self.players) - 1]

    def note(self, i, start, length, high):
        if i >= len(self.players):
            return [-2]
        low, top, notes = self.players[i][1:]
        if length == 0 or start + length > len(self.ticks):
            return [-22]
        if high not in range(low, top + 1):
            return [-34]
        if any(self.begun(i, t) is not None for t in range(start, start + length)):
            return [-17]
        if len(notes) == 256:
            return [-28]
        notes[start] = (length, high)
        return [len(notes)]

    def drop(self, i, start):
        if i >= len(self.players) or start not in self.players[i][3]:
            return [-2]
        del self.players[i][3][start]
        return [len(self.players[i][3])]

    def begun(self, i, tick):
        """When the note began that sounds at the tick, or None."""
        for start, (length, _) in self.players[i][3].items():
            if start <= tick < start + length:
                return start
        return None

    def high(self, i, tick):
        """How high the player is at the tick, or None."""
        begun = self.begun(i, tick)
        return None if begun is None else self.players[i][3][begun][1]

    def ticks_of(self, number):
        return [t for t, bar in enumerate(self.ticks) if bar == number]

    def part(self, i):
        if i >= len(self.players):
            return [-2]
        row = []
        empty = 0
        for number in range(self.bars):
            heads = self.heads(i, self.ticks_of(number))
            if [head for head, _ in heads] == [254]:
                empty += 1
                continue
            row += [255, empty] if empty else []
            empty = 0
            row += joined(heads)
        return [0] + row + ([255, empty] if empty else [])

    def heads(self, i, ticks):
        heads = []
        before = "nothing"
        for tick in ticks:
            begun = self.begun(i, tick)
            if begun == before:
                heads[-1][1] += 1
                continue
            before = begun
            if begun is None:
                heads.append([254, 1])
            elif begun < ticks[0]:
                heads.append([253, 1])
            else:
                heads.append([self.players[i][3][begun][1] + self.players[i][0] + 24, 1])
        return heads

    def read(self, i, b):
        if i >= len(self.players):
            return [-2]
        shift, low, top, notes = self.players[i]
        try:
            found = self.spelled(b, shift)
        except Wrong:
            return [-71]
        if len(found) > 256 or any(high not in range(low, top + 1) for _, high in found.values()):
            return [-71]
        notes.clear()
        notes.update(found)
        return [len(notes)]

    def spelled(self, b, shift):
        """The notes of a part, bar by bar, with each thing that a bar asks for asked by itself."""
        pairs = list(zip(b[::2], b[1::2]))
        if len(b) % 2 or any(length == 0 for _, length in pairs):
            raise Wrong
        notes = {}
        number = 0
        before = None
        while pairs:
            if pairs[0][0] == 255:
                number += pairs.pop(0)[1]
                if before == 255 or number > self.bars:
                    raise Wrong
                before = 255
                continue
            if number == self.bars:
                raise Wrong
            before = self.spelled_bar(self.ticks_of(number), pairs, notes, shift, before)
            number += 1
        if number < self.bars:
            raise Wrong
        return notes

    def spelled_bar(self, ticks, pairs, notes, shift, before):
        """Takes one bar's pairs away from pairs; gives back the last one's head."""
        left = list(ticks)
        while left:
            if not pairs:
                raise Wrong
            head, length = pairs.pop(0)
            first = len(left) == len(ticks)
            if length > len(left) or head == 255:
                raise Wrong
            if head == 254 and (length == len(ticks) or (before == 254 and not first)):
                raise Wrong
            if head == 253:
                if not first or before in (None, 254, 255):
                    raise Wrong
                start = max(notes)
                notes[start] = (notes[start][0] + length, notes[start][1])
            elif head < 253:
                notes[left[0]] = (length, head - shift - 24)
            before = head
            left = left[length:]
        return before

    def standing(self, i, first, behind):
        """How much stands on a page that holds the bars from first to the one ahead of behind."""
        empty = [self.heads(i, self.ticks_of(number))[0][0] == 254 and len(self.heads(i, self.ticks_of(number))) == 1
                 for number in range(first, behind)]
        together = sum(1 for is_empty, _ in itertools.groupby(empty) if is_empty)
        others = [number for number in range(first, behind) if not empty[number - first]]
        return together + sum(len(self.heads(i, self.ticks_of(number))) for number in others)

    def may_turn(self, i, behind, rest):
        """If one may turn at the end of the bar that is ahead of behind."""
        end = self.ticks_of(behind - 1)[-1] + 1
        silent = 0
        for t in range(end - 1, -1, -1):
            if self.high(i, t) is not None:
                break
            silent += 1
        for t in range(end, len(self.ticks)):
            if self.high(i, t) is not None:
                break
            silent += 1
        return silent >= rest

    def pages(self, i, most, rest):
        if i >= len(self.players):
            return [-2]
        # From each bar on the best pages to the end, or None: the fewest, then the most bars first.
        best = [None] * self.bars + [[]]
        turns = [self.may_turn(i, behind, rest) for behind in range(1, self.bars)] + [True]
        for first in range(self.bars - 1, -1, -1):
            ways = []
            for behind in range(first + 1, self.bars + 1):
                if self.standing(i, first, behind) <= most and turns[behind - 1] and best[behind] is not None:
                    ways.append([behind] + best[behind])
            best[first] = min(ways, key=lambda ends: (len(ends), [-end for end in ends]), default=None)
        return [-33] if best[0] is None else [len(best[0])] + best[0]

    def all_pages(self, i, most, rest):
        """The same as pages, by trying every way to part the bars."""
        if self.bars == 0:
            return [0]
        ways = []
        for many in range(self.bars):
            for inner in itertools.combinations(range(1, self.bars), many):
                edges = [0, *inner, self.bars]
                if all(self.standing(i, *edge) <= most for edge in zip(edges, edges[1:])):
                    if all(self.may_turn(i, behind, rest) for behind in inner):
                        ways.append(edges[1:])
            if ways:
                return [many + 1] + max(ways)
        return [-33]

    def sounds(self, t):
        if t >= len(self.ticks):
            return [-2]
        heard = [(i, self.high(i, t)) for i in range(len(self.players))]
        heard = [pair for pair in heard if pair[1] is not None]
        return [len(heard)] + joined(heard)

    def move(self, k):
        for _, low, top, notes in self.players:
            if any(high + k not in range(low, top + 1) for _, high in notes.values()):
                return [-34]
        for _, _, _, notes in self.players:
            for start, (length, high) in list(notes.items()):
                notes[start] = (length, high + k)
        return [0]

    def parallels(self, i, j):
        if i >= len(self.players) or j >= len(self.players):
            return [-2]
        if i == j:
            return [-22]
        count = 0
        for t in range(len(self.ticks) - 1):
            highs = (self.high(i, t), self.high(j, t), self.high(i, t + 1), self.high(j, t + 1))
            if None in highs:
                continue
            one, other, one_behind, other_behind = highs
            same_way = (one_behind - one) * (other_behind - other) > 0
            count += same_way and abs(one - other) % 12 in (0, 7) and abs(one_behind - other_behind) % 12 in (0, 7)
        return [count]

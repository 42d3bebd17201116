"""A score: its bars, its players, and the notes of each player."""

from partscores.refusals import AT_ONCE, NO_ROOM, NOT_ALLOWED, NOT_THERE, OUT_OF_RANGE

MOST_BARS = 64
LONGEST_BAR = 64
MOST_PLAYERS = 16
WIDEST_SHIFT = 24
HIGHEST = 127
MOST_NOTES = 256


# The end is kept in the place of the length: it is what bars and other notes are held against.
class Note:
    def __init__(self, start, end, high):
        self.start = start
        self.end = end
        self.high = high


# The notes stand in the order in which they sound, so that a part is written in one walk.
class Player:
    def __init__(self, shift, low, top):
        self.shift = shift
        self.low = low
        self.top = top
        self.notes = []

    def may_sound(self, high):
        return self.low <= high and high <= self.top

    def is_silent(self, start, end):
        for note in self.notes:
            if note.start < end and start < note.end:
                return False
        return True

    def take(self, added):
        self.notes = sorted(self.notes + [added], key=lambda note: note.start)

    def leave_out(self, start):
        self.notes = [note for note in self.notes if note.start != start]

    def note_at(self, tick):
        first = 0
        behind = len(self.notes)
        while first < behind:
            middle = (first + behind) // 2
            note = self.notes[middle]
            if note.end <= tick:
                first = middle + 1
            elif note.start > tick:
                behind = middle
            else:
                return note
        return None

    def may_move(self, k):
        highs = [note.high for note in self.notes]
        return len(highs) == 0 or (self.may_sound(min(highs) + k) and self.may_sound(max(highs) + k))

    def move_notes(self, k):
        for note in self.notes:
            note.high += k


class Score:
    def __init__(self):
        self.bars = []
        self.players = []

    def begin(self):
        self.bars = []
        self.players = []
        return 0

    def last_end(self):
        return sum(self.bars)

    def has_player(self, i):
        return i < len(self.players)

    def new_bar(self, length):
        if length == 0 or length > LONGEST_BAR:
            return NOT_ALLOWED
        if len(self.bars) == MOST_BARS:
            return NO_ROOM
        self.bars.append(length)
        return len(self.bars) - 1

    def new_player(self, shift, low, top):
        if abs(shift) > WIDEST_SHIFT or low > top or top > HIGHEST:
            return NOT_ALLOWED
        if len(self.players) == MOST_PLAYERS:
            return NO_ROOM
        self.players.append(Player(shift, low, top))
        return len(self.players) - 1

    def new_note(self, i, start, length, high):
        if not self.has_player(i):
            return NOT_THERE
        player = self.players[i]
        end = start + length
        if length == 0 or end > self.last_end():
            return NOT_ALLOWED
        if not player.may_sound(high):
            return OUT_OF_RANGE
        if not player.is_silent(start, end):
            return AT_ONCE
        if len(player.notes) == MOST_NOTES:
            return NO_ROOM
        player.take(Note(start, end, high))
        return len(player.notes)

    def drop_note(self, i, start):
        if not self.has_player(i):
            return NOT_THERE
        player = self.players[i]
        before = len(player.notes)
        player.leave_out(start)
        if len(player.notes) == before:
            return NOT_THERE
        return len(player.notes)

    def move_all(self, k):
        # All are asked before one is moved, so that a refusal changes nothing.
        if not all([player.may_move(k) for player in self.players]):
            return OUT_OF_RANGE
        for player in self.players:
            player.move_notes(k)
        return 0

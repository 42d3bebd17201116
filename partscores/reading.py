"""How a part is read back into the notes of which it was written."""

from partscores.score import MOST_NOTES, Note, Player
from partscores.writing import EMPTY, GOES_ON, LIFT, REST, written_part


def bar_begins(bars):
    begins = [0]
    for length in bars:
        begins.append(begins[-1] + length)
    # The last bar's end stands there too: empty bars may reach up to it.
    return begins


def behind_empty(begins, at, count):
    if at not in begins:
        return None
    number = begins.index(at) + count
    if number >= len(begins):
        return None
    return begins[number]


def spelled_notes(bars, shift, part):
    begins = bar_begins(bars)
    notes = []
    at = 0
    for k in range(0, len(part), 2):
        head = part[k]
        length = part[k + 1]
        behind = behind_empty(begins, at, length) if head == EMPTY else at + length
        # Nothing is ever written with 0 behind it.
        if length == 0 or behind is None:
            return None
        if head == GOES_ON:
            if len(notes) == 0:
                return None
            longer = notes[-1]
            longer.end = behind
        elif head != REST and head != EMPTY:
            notes.append(Note(at, behind, head - shift - LIFT))
        at = behind
    return notes


def read_notes(bars, player, part):
    if len(part) % 2 == 1:
        return None
    notes = spelled_notes(bars, player.shift, part)
    if notes is None or len(notes) > MOST_NOTES:
        return None
    if not all([player.may_sound(note.high) for note in notes]):
        return None
    # Notes have one part alone. So what bars and rests ask of a part need not be asked one by one:
    # whatever isn't as these notes are written is the part of none.
    reader = Player(player.shift, player.low, player.top)
    reader.notes = notes
    if written_part(bars, reader) != part:
        return None
    return notes

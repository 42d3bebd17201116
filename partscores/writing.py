"""How a player's part is written."""

EMPTY = 255
REST = 254
GOES_ON = 253
# The lowest shift is -24: with this added, what is written is never below 0.
LIFT = 24


def first_behind(notes, first, tick):
    k = first
    while k < len(notes) and notes[k].end <= tick:
        k += 1
    return k


def written_note(note, shift, begin, end):
    length = min(note.end, end) - max(note.start, begin)
    if note.start < begin:
        return (GOES_ON, length)
    return (note.high + shift + LIFT, length)


def written_bar(player, first, begin, end):
    row = []
    at = begin
    k = first
    while k < len(player.notes) and player.notes[k].start < end:
        note = player.notes[k]
        if note.start > at:
            row.append((REST, note.start - at))
        row.append(written_note(note, player.shift, begin, end))
        at = note.end
        k += 1
    # An empty bar gets no rest: it is counted together with its neighbours.
    if len(row) > 0 and at < end:
        row.append((REST, end - at))
    return row


def written_bars(bars, player):
    rows = []
    first = 0
    begin = 0
    for length in bars:
        end = begin + length
        # A note may reach into several bars, so only those that are over are passed by.
        first = first_behind(player.notes, first, begin)
        rows.append(written_bar(player, first, begin, end))
        begin = end
    return rows


def written_empty(count):
    if count == 0:
        return []
    return [EMPTY, count]


def written_part(bars, player):
    part = []
    empty = 0
    for row in written_bars(bars, player):
        if len(row) == 0:
            empty += 1
        else:
            part.extend(written_empty(empty))
            empty = 0
            for pair in row:
                part.extend(pair)
    part.extend(written_empty(empty))
    return part

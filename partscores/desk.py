"""Calls on one score, handed in as one list of whole numbers, and what is answered to each."""

from partscores.paging import page_ends
from partscores.parallels import count_parallels
from partscores.reading import read_notes
from partscores.refusals import NO_PAGES, NOT_A_PART, NOT_ALLOWED, NOT_THERE
from partscores.score import Score
from partscores.writing import written_part

BEGIN = 0
BAR = 1
PLAYER = 2
NOTE = 3
DROP = 4
PART = 5
READ = 6
PAGES = 7
SOUNDS = 8
MOVE = 9

# How many whole numbers stand behind each call's number; of read, without its row.
SIZES = (0, 1, 3, 4, 2, 1, 2, 3, 1, 1, 2)


def part_answer(score, i):
    if not score.has_player(i):
        return [NOT_THERE]
    return [0] + written_part(score.bars, score.players[i])


def read_answer(score, i, part):
    if not score.has_player(i):
        return [NOT_THERE]
    player = score.players[i]
    notes = read_notes(score.bars, player, part)
    if notes is None:
        return [NOT_A_PART]
    player.notes = notes
    return [len(notes)]


def pages_answer(score, i, most, rest):
    if not score.has_player(i):
        return [NOT_THERE]
    ends = page_ends(score.bars, score.players[i], most, rest)
    if ends is None:
        return [NO_PAGES]
    return [len(ends)] + ends


def sounds_answer(score, tick):
    if tick >= score.last_end():
        return [NOT_THERE]
    count = 0
    pairs = []
    for i, player in enumerate(score.players):
        note = player.note_at(tick)
        if note is not None:
            count += 1
            pairs.extend((i, note.high))
    return [count] + pairs


def parallels_answer(score, i, j):
    if not score.has_player(i) or not score.has_player(j):
        return [NOT_THERE]
    if i == j:
        return [NOT_ALLOWED]
    return [count_parallels(score.players[i].notes, score.players[j].notes)]


def answer(score, call, numbers):
    if call == BEGIN:
        return [score.begin()]
    if call == BAR:
        return [score.new_bar(numbers[0])]
    if call == PLAYER:
        return [score.new_player(numbers[0], numbers[1], numbers[2])]
    if call == NOTE:
        return [score.new_note(numbers[0], numbers[1], numbers[2], numbers[3])]
    if call == DROP:
        return [score.drop_note(numbers[0], numbers[1])]
    if call == PART:
        return part_answer(score, numbers[0])
    if call == READ:
        return read_answer(score, numbers[0], numbers[2:])
    if call == PAGES:
        return pages_answer(score, numbers[0], numbers[1], numbers[2])
    if call == SOUNDS:
        return sounds_answer(score, numbers[0])
    if call == MOVE:
        return [score.move_all(numbers[0])]
    # SIZES lets no call through but these and parallels.
    return parallels_answer(score, numbers[0], numbers[1])


def behind_call(calls, k):
    behind = k + 1 + SIZES[calls[k]]
    if calls[k] == READ:
        # The last of read's numbers tells how long its row is.
        return behind + calls[behind - 1]
    return behind


def answers(calls):
    score = Score()
    given = []
    k = 0
    while k < len(calls):
        behind = behind_call(calls, k)
        answered = answer(score, calls[k], calls[k + 1:behind])
        given.append(len(answered))
        given.extend(answered)
        k = behind
    return given

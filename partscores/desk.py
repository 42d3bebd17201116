"""Calls on one score, handed in as one list of whole numbers, and what is answered to each."""

from partscores.refusals import NOT_THERE
from partscores.score import Score
from partscores.writing import written_part

BEGIN = 0
BAR = 1
PLAYER = 2
NOTE = 3
DROP = 4

# How many whole numbers stand behind each call's number.
SIZES = (0, 1, 3, 4, 2, 1)


def part_answer(score, i):
    if not score.has_player(i):
        return [NOT_THERE]
    return [0] + written_part(score.bars, score.players[i])


def answer(score, call, numbers):
    if call == BEGIN:
        return [score.begin()]
    if call == BAR:
        return [score.new_bar(numbers[0])]
    if call == PLAYER:
        return [score.new_player(numbers[0], numbers[1], numbers[2])]
    if call == NOTE:
        return [score.new_note(numbers[0], numbers[1], numbers[2], numbers[3])]
    if call == DROP:
        return [score.drop_note(numbers[0], numbers[1])]
    # SIZES lets no call through but these and part.
    return part_answer(score, numbers[0])


def answers(calls):
    score = Score()
    given = []
    k = 0
    while k < len(calls):
        behind = k + 1 + SIZES[calls[k]]
        answered = answer(score, calls[k], calls[k + 1:behind])
        given.append(len(answered))
        given.extend(answered)
        k = behind
    return given

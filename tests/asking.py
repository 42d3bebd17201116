"""Calls written as lists, and the answers taken apart again, one list a call."""

from partscores.desk import answers

BEGIN = [0]
WIDE = [2, 0, 0, 127]


def bar(length):
    return [1, length]


def player(shift, low, top):
    return [2, shift, low, top]


def note(i, start, length, high):
    return [3, i, start, length, high]


def drop(i, start):
    return [4, i, start]


def part(i):
    return [5, i]


def read(i, b):
    return [6, i, len(b)] + list(b)


def pages(i, most, rest):
    return [7, i, most, rest]


def sounds(t):
    return [8, t]


def move(k):
    return [9, k]


def parallels(i, j):
    return [10, i, j]


def joined(calls):
    return [number for call in calls for number in call]


def taken_apart(given):
    rows = []
    k = 0
    while k < len(given):
        if given[k] < 1:
            raise AssertionError(f"{given[k]} numbers answered")
        rows.append(given[k + 1:k + 1 + given[k]])
        k += 1 + given[k]
    return rows


def ask(*calls):
    """What is answered to each of the calls."""
    rows = taken_apart(answers(joined(calls)))
    if len(rows) != len(calls):
        raise AssertionError(f"{len(calls)} calls, {len(rows)} answers")
    return rows


def last(*calls):
    """What is answered to the last of the calls."""
    return ask(*calls)[-1]

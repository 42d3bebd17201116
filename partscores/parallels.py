"""Where two players go in parallel."""

OCTAVE = 12
PARALLEL = (0, 7)


# From one tick to the next a player goes higher or lower only where a note begins right behind another.
def steps(notes):
    found = {}
    for k in range(1, len(notes)):
        before = notes[k - 1]
        behind = notes[k]
        if before.end == behind.start:
            found[behind.start] = (before.high, behind.high)
    return found


def is_parallel(high, other):
    return abs(high - other) % OCTAVE in PARALLEL


def goes_parallel(step, other):
    up = step[0] < step[1] and other[0] < other[1]
    down = step[0] > step[1] and other[0] > other[1]
    if not up and not down:
        return False
    return is_parallel(step[0], other[0]) and is_parallel(step[1], other[1])


def count_parallels(notes, other_notes):
    other_steps = steps(other_notes)
    count = 0
    for tick, step in steps(notes).items():
        if tick in other_steps and goes_parallel(step, other_steps[tick]):
            count += 1
    return count

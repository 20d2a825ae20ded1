"""The calls of the stage "The round way", asked from n's first triple on."""

from nearsquares.pairs import GREATEST_N, LEAST_N, allowed, difference
from nearsquares.roundway import after_steps, least_pair, way_steps, whole_way
from nearsquares.telling import NO_SUCH_PAIR, WRONG_NUMBER, counted, with_difference, without_difference

MOST_STEPS = 60


def allowed_up_to(b):
    return [n for n in range(LEAST_N, b + 1) if allowed(n)]


def first_with(n, gaps):
    """Of n's way the first triple whose difference is one of these; None if there is none."""
    for pair in whole_way(n):
        if difference(n, pair) in gaps:
            return pair
    return None


def steps(desk, j):
    if j > MOST_STEPS:
        return [WRONG_NUMBER]
    return with_difference(desk.n, after_steps(desk.n, j))


def way(desk):
    return counted(whole_way(desk.n))


def diffs(desk):
    gaps = [difference(desk.n, pair) for pair in whole_way(desk.n)]
    return [len(gaps)] + gaps


def leastof(desk, n):
    if not allowed(n):
        return [WRONG_NUMBER]
    return without_difference(least_pair(n))


def long(desk, n):
    if not allowed(n):
        return [WRONG_NUMBER]
    return [way_steps(n)]


def short(desk):
    return with_difference(desk.n, first_with(desk.n, (1, -1, 2, -2, 4, -4)))


def longest(desk, b):
    if b < LEAST_N or b > GREATEST_N:
        return [WRONG_NUMBER]
    # max answers the first of like ones, and that is the least.
    found = max(allowed_up_to(b), key=way_steps)
    return [found, way_steps(found)]


def greatest(desk, b):
    if b < LEAST_N or b > GREATEST_N:
        return [WRONG_NUMBER]
    found = max(allowed_up_to(b), key=lambda n: least_pair(n).x)
    return [found, least_pair(found).x]


def minus(desk, n):
    if not allowed(n):
        return [WRONG_NUMBER]
    found = first_with(n, (-1,))
    if found is None:
        return [NO_SUCH_PAIR]
    return without_difference(found)


# The call's number: what answers it, and how many arguments it has.
WAY_CALLS = {
    30: (steps, 1),
    31: (way, 0),
    32: (diffs, 0),
    33: (leastof, 1),
    34: (long, 1),
    35: (short, 0),
    36: (longest, 1),
    37: (greatest, 1),
    38: (minus, 1),
}

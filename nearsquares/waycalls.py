"""The calls of the stage "The round way", asked from n's first triple on."""

from nearsquares.pairs import allowed, difference
from nearsquares.roundway import after_steps, least_pair, whole_way
from nearsquares.telling import WRONG_NUMBER, counted, with_difference

MOST_STEPS = 60


def steps(desk, j):
    if j > MOST_STEPS:
        return [WRONG_NUMBER]
    return with_difference(desk.n, after_steps(desk.n, j))


def way(desk):
    return counted(whole_way(desk.n))


def diffs(desk):
    gaps = [difference(desk.n, pair) for pair in whole_way(desk.n)]
    return [len(gaps)] + gaps


def leastof(desk, n):
    if not allowed(n):
        return [WRONG_NUMBER]
    least = least_pair(n)
    return [0, least.x, least.y]


def long(desk, n):
    if not allowed(n):
        return [WRONG_NUMBER]
    return [len(whole_way(n)) - 1]


# The call's number: what answers it, and how many arguments it has.
WAY_CALLS = {
    30: (steps, 1),
    31: (way, 0),
    32: (diffs, 0),
    33: (leastof, 1),
    34: (long, 1),
}

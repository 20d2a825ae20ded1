"""The calls of the stage "Pairs put together", asked of the pair at hand."""

from nearsquares.pairs import Pair, closest_pair, difference, joined, made_one, nearest_pair, parted_from
from nearsquares.pairs import powered, too_great, whole_root
from nearsquares.telling import NO_SUCH_PAIR, WRONG_NUMBER, with_difference

GREATEST_POWER = 12
GREATEST_Y = 1000
GREATEST_BOUND = 60
GREATEST_SQUARE = 10000


def square(desk):
    return with_difference(desk.n, joined(desk.n, desk.hand, desk.hand))


def power(desk, k):
    if k > GREATEST_POWER:
        return [WRONG_NUMBER]
    return with_difference(desk.n, powered(desk.n, desk.hand, k))


def parted(desk, u, v):
    other = Pair(u, v)
    if too_great(other):
        return [WRONG_NUMBER]
    found = parted_from(desk.n, desk.hand, other)
    if found is None:
        return [NO_SUCH_PAIR]
    return with_difference(desk.n, found)


def one(desk):
    made = made_one(desk.n, desk.hand)
    if made is None:
        return [NO_SUCH_PAIR]
    return with_difference(desk.n, made)


def nearest(desk, y):
    if y < 1 or y > GREATEST_Y:
        return [WRONG_NUMBER]
    return with_difference(desk.n, nearest_pair(desk.n, y))


def closest(desk, b):
    if b < 1 or b > GREATEST_BOUND:
        return [WRONG_NUMBER]
    return with_difference(desk.n, closest_pair(desk.n, b))


def of(desk, u, v):
    pair = Pair(u, v)
    if too_great(pair):
        return [WRONG_NUMBER]
    return [0, difference(desk.n, pair)]


def both(desk, u, v, s, t):
    pair = Pair(u, v)
    other = Pair(s, t)
    if too_great(pair) or too_great(other):
        return [WRONG_NUMBER]
    return with_difference(desk.n, joined(desk.n, pair, other))


def root(desk, m):
    if m > GREATEST_SQUARE:
        return [WRONG_NUMBER]
    whole = whole_root(m)
    return [whole, m - whole * whole]


# The call's number: what answers it, and how many arguments it has.
PAIR_CALLS = {
    21: (square, 0),
    22: (power, 1),
    23: (parted, 2),
    24: (one, 0),
    25: (nearest, 1),
    26: (closest, 1),
    27: (of, 2),
    28: (both, 4),
    29: (root, 1),
}

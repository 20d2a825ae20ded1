"""Pairs of a given difference, here called gap.

Here `one` is the pair with the difference 1 that has the least y above 0.
"""

from nearsquares.ladder import is_first
from nearsquares.pairs import Pair, whole_root


def pair_with_y(n, gap, y):
    """The pair of that difference with that y; None if there is none."""
    square = n * y * y + gap
    if square < 0:
        return None
    x = whole_root(square)
    if x * x != square:
        return None
    return Pair(x, y)


def pairs_up_to(n, gap, b):
    """All pairs of that difference with y from 0 to b, by y."""
    candidates = [pair_with_y(n, gap, y) for y in range(b + 1)]
    return [pair for pair in candidates if pair is not None]


def bound_of(one, k):
    """No first one whose difference is k, either way, has a greater y."""
    return whole_root(one.y * one.y * k // (2 * (one.x - 1)))


def least_of_gap(n, one, gap):
    """The pair of that difference with the least y; None if no pair has it."""
    # Steps down end at a first one, so the least is none above the bound.
    for y in range(bound_of(one, abs(gap)) + 1):
        pair = pair_with_y(n, gap, y)
        if pair is not None:
            return pair
    return None


def firsts_of(n, one, gap):
    """All first ones of that difference, by y."""
    small = pairs_up_to(n, gap, bound_of(one, abs(gap)))
    return [pair for pair in small if is_first(n, one, pair)]

"""Pairs with the difference 1, by their numbers.

Here `one` is the pair with the difference 1 that has the least y above 0: number 1. Number k is its k-th power.
"""

from nearsquares.pairs import Pair, joined, powered


def greatest_common(a, b):
    """The greatest number that divides both; 0 of 0 and 0."""
    while b != 0:
        rest = a % b
        a = b
        b = rest
    return a


def by_rule(n, one, k):
    """Number k, told by the two before it."""
    before = powered(n, one, k - 1)
    earlier = powered(n, one, k - 2)
    return Pair(2 * one.x * before.x - earlier.x, 2 * one.x * before.y - earlier.y)


def left_of(pair, m):
    """What is left of both numbers, divided by m."""
    return Pair(pair.x % m, pair.y % m)


def turns_round(n, one, m):
    """Behind how many numbers what is left, divided by m, is again what is left of 1, 0."""
    # What is left of a number comes of what is left of the one before: numbers stay small.
    start = left_of(Pair(1, 0), m)
    reached = left_of(one, m)
    turns = 1
    while reached.x != start.x or reached.y != start.y:
        reached = left_of(joined(n, reached, one), m)
        turns = turns + 1
    return turns

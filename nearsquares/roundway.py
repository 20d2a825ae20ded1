"""The round way of n: from triple to triple till the difference is 1.

A triple is kept as its pair alone, for its difference comes of n and the pair.
"""

from nearsquares.pairs import Pair, difference, nearest_pair


def first_of_way(n):
    return nearest_pair(n, 1)


def taken(n, pair):
    """The number that is taken of the triple."""
    gap = difference(n, pair)
    fitting = [m for m in range(1, 2 * n + 1) if (pair.x + m * pair.y) % gap == 0]
    # min answers the first of like ones, and that is the lesser.
    return min(fitting, key=lambda m: abs(m * m - n))


def next_of_way(n, pair):
    m = taken(n, pair)
    divisor = abs(difference(n, pair))
    return Pair((pair.x * m + n * pair.y) // divisor, (pair.x + pair.y * m) // divisor)


def after_steps(n, j):
    """What comes of j steps from the first triple, also behind a difference of 1."""
    pair = first_of_way(n)
    for turn in range(j):
        pair = next_of_way(n, pair)
    return pair


def whole_way(n):
    """All triples from the first to the first whose difference is 1."""
    pairs = [first_of_way(n)]
    while difference(n, pairs[-1]) != 1:
        pairs.append(next_of_way(n, pairs[-1]))
    return pairs


def way_steps(n):
    """How many steps n's way has."""
    return len(whole_way(n)) - 1


def least_pair(n):
    """The pair with the difference 1 that has the least y above 0."""
    return whole_way(n)[-1]

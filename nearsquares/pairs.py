"""Pairs x, y for one n: their differences, put together and parted."""

LEAST_N = 2
GREATEST_N = 60
LARGEST = 1000000


class Pair:
    """Two whole numbers; never changed once made, so that it may be shared."""

    def __init__(self, x, y):
        self.x = x
        self.y = y


def whole_root(m):
    """The greatest whole number whose square is no more than m."""
    # From above, each turn stays at the root or over it: the first fit is the greatest.
    root = m
    while root * root > m:
        root = (root + m // root) // 2
    return root


def allowed(n):
    return LEAST_N <= n <= GREATEST_N and whole_root(n) * whole_root(n) != n


def too_great(pair):
    return pair.x > LARGEST or pair.y > LARGEST


def difference(n, pair):
    return pair.x * pair.x - n * pair.y * pair.y


def joined(n, pair, other):
    """The two put together."""
    return Pair(pair.x * other.x + n * pair.y * other.y, pair.x * other.y + pair.y * other.x)


def crossed(n, pair, other):
    """The two put together the other way round."""
    return Pair(abs(pair.x * other.x - n * pair.y * other.y), abs(pair.x * other.y - pair.y * other.x))


def powered(n, pair, k):
    power = Pair(1, 0)
    for turn in range(k):
        power = joined(n, power, pair)
    return power


def parted_from(n, pair, other):
    """The pair that, put together with the other, is this one; None if there is none."""
    divisor = difference(n, other)
    # n is no square, so that only 0, 0 has no difference.
    if divisor == 0:
        return None
    x = pair.x * other.x - n * pair.y * other.y
    y = pair.y * other.x - pair.x * other.y
    if x % divisor != 0 or y % divisor != 0:
        return None
    if x // divisor < 0 or y // divisor < 0:
        return None
    return Pair(x // divisor, y // divisor)


def one_from_four(pair):
    square = pair.x * pair.x
    if pair.x % 2 == 0 and pair.y % 2 == 0:
        return Pair(pair.x // 2, pair.y // 2)
    if pair.x % 2 == 0:
        return Pair((square - 2) // 2, pair.x * pair.y // 2)
    return Pair(pair.x * (square - 3) // 2, pair.y * (square - 1) // 2)


def one_from_minus_four(pair):
    square = pair.x * pair.x
    middle = (square + 1) * (square + 3)
    return Pair((square + 2) * (middle - 2) // 2, pair.x * pair.y * middle // 2)


def made_one(n, pair):
    """A pair with the difference 1, made of this one; None if its difference isn't 1, 2 or 4 either way."""
    gap = difference(n, pair)
    if gap == 1:
        return pair
    if gap == -1:
        return joined(n, pair, pair)
    if abs(gap) == 2:
        return Pair((pair.x * pair.x + n * pair.y * pair.y) // 2, pair.x * pair.y)
    if gap == 4:
        return one_from_four(pair)
    if gap == -4:
        return one_from_minus_four(pair)
    return None


def nearest_pair(n, y):
    """Of all pairs with that y the one whose difference is nearest to 0."""
    below = Pair(whole_root(n * y * y), y)
    above = Pair(below.x + 1, y)
    # The two can't be as near: together their differences are odd.
    if abs(difference(n, below)) < abs(difference(n, above)):
        return below
    return above


def closest_pair(n, b):
    """Of the nearest with y from 1 to b the one whose difference is nearest to 0."""
    candidates = [nearest_pair(n, y) for y in range(1, b + 1)]
    # min answers the first of like ones, and that has the least y.
    return min(candidates, key=lambda pair: abs(difference(n, pair)))

"""How answers are told: the refusals, and pairs as rows of numbers."""

from nearsquares.pairs import difference

NO_SUCH_KEPT = -2
NO_MOVE_TO_TAKE_BACK = -6
NOT_BEGUN = -11
ALREADY_FIRST = -16
WRONG_NUMBER = -22
TOO_MUCH = -28
NO_SUCH_PAIR = -33


def with_difference(n, pair):
    return [0, pair.x, pair.y, difference(n, pair)]


def without_difference(pair):
    return [0, pair.x, pair.y]


def counted(pairs):
    """How many pairs, then x, y of each."""
    row = [len(pairs)]
    for pair in pairs:
        row.extend([pair.x, pair.y])
    return row

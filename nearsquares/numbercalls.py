"""The calls of the stage "All others": pairs with the difference 1, by their numbers."""

from nearsquares.ladder import number_from
from nearsquares.numbered import by_rule, greatest_common, left_of, turns_round
from nearsquares.pairs import Pair, allowed, difference, joined, powered, whole_root
from nearsquares.roundway import least_pair
from nearsquares.telling import NO_SUCH_PAIR, WRONG_NUMBER, without_difference

# Of the numbers that are handed over; number and above may tell greater ones.
GREATEST_NUMBER = 12
GREATEST_TIMES = 1000000
GREATEST_DIVISOR = 1000
GREATEST_ROUND = 100


def numbered(desk, k):
    return powered(desk.n, desk.one, k)


def nth(desk, n, k):
    if not allowed(n) or k > GREATEST_NUMBER:
        return [WRONG_NUMBER]
    return without_difference(powered(n, least_pair(n), k))


def number(desk, x, y):
    if difference(desk.n, Pair(x, y)) != 1:
        return [NO_SUCH_PAIR]
    return [number_from(desk.n, desk.one, y)]


def is_pair(desk, x, y):
    return [1 if difference(desk.n, Pair(x, y)) == 1 else 0]


def above(desk, b):
    k = number_from(desk.n, desk.one, b)
    found = numbered(desk, k)
    return [k, found.x, found.y]


def many(desk, b):
    # Number 0 counts too, so those up to b are as many as the first number beyond.
    return [number_from(desk.n, desk.one, b + 1)]


def divides(desk, j, k):
    if j == 0 or j > GREATEST_NUMBER or k > GREATEST_NUMBER:
        return [WRONG_NUMBER]
    return [1 if numbered(desk, k).y % numbered(desk, j).y == 0 else 0]


def common(desk, j, k):
    if j > GREATEST_NUMBER or k > GREATEST_NUMBER:
        return [WRONG_NUMBER]
    return [0, greatest_common(numbered(desk, j).y, numbered(desk, k).y)]


def together(desk, j, k):
    if j > GREATEST_NUMBER or k > GREATEST_NUMBER:
        return [WRONG_NUMBER]
    return without_difference(joined(desk.n, numbered(desk, j), numbered(desk, k)))


def rule(desk, k):
    if k < 2 or k > GREATEST_NUMBER:
        return [WRONG_NUMBER]
    return without_difference(by_rule(desk.n, desk.one, k))


def rootby(desk, k, b):
    if k == 0 or k > GREATEST_NUMBER or b > GREATEST_TIMES:
        return [WRONG_NUMBER]
    pair = numbered(desk, k)
    return [0, b * pair.x // pair.y, whole_root(desk.n * b * b)]


def leftof(desk, m, k):
    if m < 1 or m > GREATEST_DIVISOR or k > GREATEST_NUMBER:
        return [WRONG_NUMBER]
    return without_difference(left_of(numbered(desk, k), m))


def round_by(desk, m):
    if m < 1 or m > GREATEST_ROUND:
        return [WRONG_NUMBER]
    return [turns_round(desk.n, desk.one, m)]


# The call's number: what answers it, and how many arguments it has.
NUMBER_CALLS = {
    39: (nth, 2),
    40: (number, 2),
    41: (is_pair, 2),
    42: (above, 1),
    43: (many, 1),
    44: (divides, 2),
    45: (common, 2),
    46: (together, 2),
    47: (rule, 1),
    48: (rootby, 2),
    49: (leftof, 2),
    50: (round_by, 1),
}

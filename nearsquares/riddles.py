"""Five kinds of riddles, whose answers all come of pairs of squares.

Answer number k of a kind comes of a pair that's put together with the least pair with the difference 1, k times.
"""

from nearsquares.pairs import Pair, joined, powered
from nearsquares.roundway import least_pair


class Answer:
    """What an answer is told by, and the row of all that's told of it."""

    def __init__(self, value, row):
        self.value = value
        self.row = row


def square_and_triangle(pair):
    # y is even and x odd: (x times x less 1) / 8 is the triangle of m, and y times y / 4 the square.
    r = pair.y // 2
    return Answer(r * r, [r * r, r, (pair.x - 1) // 2])


def house(pair):
    # All ahead of v are all behind it just if v times v is all from 1 to m.
    v = pair.y // 2
    return Answer(v, [v, (pair.x - 1) // 2])


def legs(pair):
    # x is v and the next number, together, so x times x and 1 are twice h times h.
    v = (pair.x - 1) // 2
    return Answer(v, [v, v + 1, pair.y])


def sides(pair):
    # With v twice x, the area's square is 3 times x times x times (x times x less 1).
    v = 2 * pair.x
    return Answer(v, [v - 1, v, v + 1, 3 * pair.x * pair.y])


def draw(pair):
    # n times (n less 1) is twice v times (v less 1): x is twice n less 1, y twice v less 1.
    v = (pair.y + 1) // 2
    return Answer(v, [v, (pair.x + 1) // 2])


# The kind: n, the pair ahead of the first answer's, and what makes an answer of a pair.
KINDS = {
    0: (2, 1, 0, square_and_triangle),
    1: (2, 1, 0, house),
    2: (2, 1, 1, legs),
    3: (3, 1, 0, sides),
    4: (2, 1, 1, draw),
}

# The kind: how many times the answer before, and what comes on top, less the one before that.
RULES = {0: (34, 2), 1: (6, 0), 2: (6, 2), 3: (4, 0), 4: (6, -2)}


def answer_by_number(c, k):
    kind = KINDS[c]
    n = kind[0]
    make = kind[3]
    return make(joined(n, Pair(kind[1], kind[2]), powered(n, least_pair(n), k)))


def answer_by_rule(c, k):
    """What answer number k is told by, from the two before it."""
    before = answer_by_number(c, k - 1).value
    earlier = answer_by_number(c, k - 2).value
    return RULES[c][0] * before - earlier + RULES[c][1]


def answer_from(c, b):
    """The number of the first answer that's told by b or more."""
    k = 1
    while answer_by_number(c, k).value < b:
        k = k + 1
    return k


def answers_up_to(c, b):
    """What all answers are told by that are told by b or less, rising."""
    return [answer_by_number(c, k).value for k in range(1, answer_from(c, b + 1))]


def is_answer(c, v):
    return answer_by_number(c, answer_from(c, v)).value == v

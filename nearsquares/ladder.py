"""Steps up and down, first ones, and the numbers of pairs with the difference 1.

Here `one` is the pair with the difference 1 that has the least y above 0.
"""

from nearsquares.pairs import Pair, crossed, joined

MOST_STEPS_DOWN = 100


def step_up(n, one, pair):
    return joined(n, pair, one)


def step_down(n, one, pair):
    return crossed(n, pair, one)


def is_first(n, one, pair):
    return step_down(n, one, pair).y >= pair.y


def descent(n, one, pair):
    """All pairs from this one down to a first one, both among them."""
    passed = [pair]
    while len(passed) <= MOST_STEPS_DOWN and not is_first(n, one, passed[-1]):
        passed.append(step_down(n, one, passed[-1]))
    return passed


def number_from(n, one, b):
    """The first number of a pair with the difference 1 whose y is b or more."""
    number = 0
    reached = Pair(1, 0)
    while reached.y < b:
        reached = step_up(n, one, reached)
        number = number + 1
    return number

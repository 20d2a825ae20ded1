"""The calls of the stage "Other differences": pairs of a difference that's told by s and k."""

from nearsquares.deskcalls import itsfirst
from nearsquares.gaps import bound_of, firsts_of, least_of_gap, pair_with_y, pairs_up_to
from nearsquares.ladder import is_first, step_down
from nearsquares.telling import NO_SUCH_PAIR, WRONG_NUMBER, counted, without_difference

GREATEST_K = 60
GREATEST_TOLD = 300
GREATEST_COUNTED = 2000
GREATEST_Y = 1000000


def told_wrongly(s, k):
    return s > 1 or k < 1 or k > GREATEST_K


def gap_by(s, k):
    return k if s == 0 else -k


def told_or_none(pair):
    if pair is None:
        return [NO_SUCH_PAIR]
    return without_difference(pair)


def first(desk):
    return itsfirst(desk)


def isfirst(desk):
    return [1 if is_first(desk.n, desk.one, desk.hand) else 0]


def firsts(desk, s, k):
    if told_wrongly(s, k):
        return [WRONG_NUMBER]
    return counted(firsts_of(desk.n, desk.one, gap_by(s, k)))


def can(desk, s, k):
    if told_wrongly(s, k):
        return [WRONG_NUMBER]
    return [0 if least_of_gap(desk.n, desk.one, gap_by(s, k)) is None else 1]


def least(desk, s, k):
    if told_wrongly(s, k):
        return [WRONG_NUMBER]
    return told_or_none(least_of_gap(desk.n, desk.one, gap_by(s, k)))


def upto(desk, s, k, b):
    if told_wrongly(s, k) or b > GREATEST_TOLD:
        return [WRONG_NUMBER]
    return counted(pairs_up_to(desk.n, gap_by(s, k), b))


def manyupto(desk, s, k, b):
    if told_wrongly(s, k) or b > GREATEST_COUNTED:
        return [WRONG_NUMBER]
    return [len(pairs_up_to(desk.n, gap_by(s, k), b))]


def bound(desk, k):
    if k < 1 or k > GREATEST_K:
        return [WRONG_NUMBER]
    return [bound_of(desk.one, k)]


def which(desk, s, b):
    # Up to nothing there are none: b may be 0, where a k may not.
    if s > 1 or b > GREATEST_K:
        return [WRONG_NUMBER]
    found = [k for k in range(1, b + 1) if least_of_gap(desk.n, desk.one, gap_by(s, k)) is not None]
    return [len(found)] + found


def withy(desk, s, k, y):
    if told_wrongly(s, k) or y > GREATEST_Y:
        return [WRONG_NUMBER]
    return told_or_none(pair_with_y(desk.n, gap_by(s, k), y))


def other(desk):
    return without_difference(step_down(desk.n, desk.one, desk.hand))


# The call's number: what answers it, and how many arguments it has.
GAP_CALLS = {
    51: (first, 0),
    52: (isfirst, 0),
    53: (firsts, 2),
    54: (can, 2),
    55: (least, 2),
    56: (upto, 3),
    57: (manyupto, 3),
    58: (bound, 1),
    59: (which, 2),
    60: (withy, 3),
    61: (other, 0),
}

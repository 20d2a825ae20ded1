"""The desk's calls that change something: begin, keep, drop, the moves and back."""

from nearsquares.ladder import is_first, step_down, step_up
from nearsquares.pairs import Pair, allowed, crossed, joined, made_one, parted_from, too_great
from nearsquares.telling import ALREADY_FIRST, NO_MOVE_TO_TAKE_BACK, NO_SUCH_KEPT, NO_SUCH_PAIR
from nearsquares.telling import TOO_MUCH, WRONG_NUMBER, with_difference

MOST_KEPT = 8


def moved(desk, pair):
    if too_great(pair):
        return [TOO_MUCH]
    desk.move_to(pair)
    return with_difference(desk.n, desk.hand)


def begin(desk, n):
    if not allowed(n):
        return [WRONG_NUMBER]
    desk.begin(n)
    return [0]


def pair_at_hand(desk, x, y):
    asked = Pair(x, y)
    if too_great(asked) or (x == 0 and y == 0):
        return [WRONG_NUMBER]
    return moved(desk, asked)


def keep(desk):
    if len(desk.kept) >= MOST_KEPT:
        return [TOO_MUCH]
    desk.kept.append(desk.hand)
    return [len(desk.kept) - 1]


def drop(desk, i):
    if not desk.has_kept(i):
        return [NO_SUCH_KEPT]
    desk.kept.pop(i)
    return [len(desk.kept)]


def take(desk, i):
    if not desk.has_kept(i):
        return [NO_SUCH_KEPT]
    return moved(desk, desk.kept[i])


def with_kept(desk, i):
    if not desk.has_kept(i):
        return [NO_SUCH_KEPT]
    return moved(desk, joined(desk.n, desk.hand, desk.kept[i]))


def from_kept(desk, i):
    if not desk.has_kept(i):
        return [NO_SUCH_KEPT]
    found = parted_from(desk.n, desk.hand, desk.kept[i])
    if found is None:
        return [NO_SUCH_PAIR]
    return moved(desk, found)


def against(desk, i):
    if not desk.has_kept(i):
        return [NO_SUCH_KEPT]
    return moved(desk, crossed(desk.n, desk.hand, desk.kept[i]))


def up(desk):
    return moved(desk, step_up(desk.n, desk.one, desk.hand))


def down(desk):
    if is_first(desk.n, desk.one, desk.hand):
        return [ALREADY_FIRST]
    return moved(desk, step_down(desk.n, desk.one, desk.hand))


def makeone(desk):
    made = made_one(desk.n, desk.hand)
    if made is None:
        return [NO_SUCH_PAIR]
    return moved(desk, made)


def back(desk):
    if len(desk.earlier) == 0:
        return [NO_MOVE_TO_TAKE_BACK]
    desk.move_back()
    return with_difference(desk.n, desk.hand)


# The call's number: what answers it, and how many arguments it has.
MOVE_CALLS = {
    0: (begin, 1),
    1: (pair_at_hand, 2),
    2: (keep, 0),
    3: (drop, 1),
    4: (take, 1),
    5: (with_kept, 1),
    6: (from_kept, 1),
    7: (against, 1),
    8: (up, 0),
    9: (down, 0),
    10: (makeone, 0),
    11: (back, 0),
}

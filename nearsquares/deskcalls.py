"""The desk's calls that change nothing: what is kept, and what is at hand."""

from nearsquares.ladder import descent, number_from
from nearsquares.pairs import Pair, difference, joined
from nearsquares.telling import NO_SUCH_KEPT, NO_SUCH_PAIR, WRONG_NUMBER, counted, with_difference

GREATEST_PRODUCT = 1000000


def end_below(desk, pair):
    """The first one below the pair, as a value that can be compared."""
    # Steps keep the difference: the same first one means the same difference, too.
    end = descent(desk.n, desk.one, pair)[-1]
    return (end.x, end.y)


def all_kept(desk):
    whole = Pair(1, 0)
    product = 1
    for pair in desk.kept:
        whole = joined(desk.n, whole, pair)
        product = product * difference(desk.n, pair)
    return [0, whole.x, whole.y, product]


def kin(desk, i, j):
    if not desk.has_kept(i) or not desk.has_kept(j):
        return [NO_SUCH_KEPT]
    if end_below(desk, desk.kept[i]) == end_below(desk, desk.kept[j]):
        return [1]
    return [0]


def families(desk):
    ends = [end_below(desk, pair) for pair in desk.kept]
    # The keys come in the order of each family's least number.
    sizes = {}
    for end in ends:
        sizes[end] = sizes.get(end, 0) + 1
    row = [len(sizes)]
    for end in sizes:
        row.extend([ends.index(end), sizes[end]])
    return row


def sets(desk, s, k):
    if s > 1 or k > GREATEST_PRODUCT:
        return [WRONG_NUMBER]
    wanted = k if s == 0 else -k
    # Each kept one doubles the list, so that a product's place is its set's number.
    products = [1]
    for pair in desk.kept:
        gap = difference(desk.n, pair)
        products = products + [product * gap for product in products]
    found = [place for place, product in enumerate(products) if product == wanted]
    return [len(found)] + found


def kept(desk):
    return counted(desk.kept)


def itsnumber(desk):
    if difference(desk.n, desk.hand) != 1:
        return [NO_SUCH_PAIR]
    return [number_from(desk.n, desk.one, desk.hand.y)]


def itsfirst(desk):
    passed = descent(desk.n, desk.one, desk.hand)
    return [len(passed) - 1, passed[-1].x, passed[-1].y]


def here(desk):
    return with_difference(desk.n, desk.hand)


def told(desk):
    return [desk.n, desk.hand.x, desk.hand.y, len(desk.kept), len(desk.earlier)]


# The call's number: what answers it, and how many arguments it has.
DESK_CALLS = {
    12: (all_kept, 0),
    13: (kin, 2),
    14: (families, 0),
    15: (sets, 2),
    16: (kept, 0),
    17: (itsnumber, 0),
    18: (itsfirst, 0),
    19: (here, 0),
    20: (told, 0),
}

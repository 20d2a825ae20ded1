"""A second, plain telling of what the desk's own calls do."""

from fractions import Fraction
from math import isqrt, prod

from tests.lines import MILLION, NS, gap, least_by_search


class Model:
    """The desk's own calls, worked out in other ways than the program's."""

    def __init__(self):
        self.n = None

    def pair(self, x, y):
        return [0, x, y, gap(self.n, x, y)]

    def move(self, x, y):
        if max(x, y) > MILLION:
            return [-28]
        self.past = [*self.past, self.hand][-12:]
        self.hand = (x, y)
        return self.pair(x, y)

    def ask(self, name, *numbers):
        if name == "begin":
            return self.begin(*numbers)
        if self.n is None:
            return [-11]
        return getattr(self, "ask_" + name)(*numbers)

    def begin(self, n):
        if n not in NS:
            return [-22]
        self.n, self.one, self.hand, self.store, self.past = n, least_by_search(n), (1, 0), [], []
        return [0]

    def ask_pair(self, x, y):
        return [-22] if max(x, y) > MILLION or x == y == 0 else self.move(x, y)

    def ask_keep(self):
        if len(self.store) == 8:
            return [-28]
        self.store = self.store + [self.hand]
        return [len(self.store) - 1]

    def ask_drop(self, i):
        if i not in range(len(self.store)):
            return [-2]
        self.store = self.store[:i] + self.store[i + 1:]
        return [len(self.store)]

    def ask_take(self, i):
        return self.move(*self.store[i]) if i in range(len(self.store)) else [-2]

    def ask_with(self, i):
        if i not in range(len(self.store)):
            return [-2]
        (x, y), (u, v) = self.hand, self.store[i]
        return self.move(x * u + self.n * y * v, x * v + y * u)

    def ask_against(self, i):
        if i not in range(len(self.store)):
            return [-2]
        (x, y), (u, v) = self.hand, self.store[i]
        return self.move(abs(x * u - self.n * y * v), abs(x * v - y * u))

    def ask_from(self, i):
        if i not in range(len(self.store)):
            return [-2]
        (x, y), (u, v) = self.hand, self.store[i]
        # By elimination: b of the one equation put into the other.
        if u:
            b = (y - Fraction(x * v, u)) / (u - Fraction(self.n * v * v, u))
            a = (x - self.n * b * v) / u
        else:
            a, b = Fraction(y, v), Fraction(x, self.n * v)
        if a.denominator != 1 or b.denominator != 1 or a < 0 or b < 0:
            return [-33]
        return self.move(int(a), int(b))

    def below(self, x, y):
        p, q = self.one
        return abs(p * x - self.n * q * y), abs(p * y - q * x)

    def bottom(self, x, y):
        steps = 0
        while steps < 100 and self.below(x, y)[1] < y:
            x, y = self.below(x, y)
            steps += 1
        return steps, (x, y)

    def ask_up(self):
        (x, y), (p, q) = self.hand, self.one
        return self.move(p * x + self.n * q * y, p * y + q * x)

    def ask_down(self):
        return self.move(*self.below(*self.hand)) if self.bottom(*self.hand)[0] else [-16]

    def made_one(self):
        x, y = self.hand
        difference = gap(self.n, x, y)
        powers = {1: 1, -1: 2, 2: 2, -2: 2, 4: 1 if x % 2 == y % 2 == 0 else 2 if x % 2 == 0 else 3, -4: 6}
        if difference not in powers:
            return None
        # All ways are powers of the pair, divided by the root of their difference.
        u, v = 1, 0
        for turn in range(powers[difference]):
            u, v = u * x + self.n * v * y, u * y + v * x
        divisor = isqrt(difference ** powers[difference])
        return u // divisor, v // divisor

    def ask_makeone(self):
        made = self.made_one()
        return [-33] if made is None else self.move(*made)

    def ask_back(self):
        if not self.past:
            return [-6]
        *self.past, self.hand = self.past
        return self.pair(*self.hand)

    def ask_all(self):
        x, y = 1, 0
        for u, v in self.store:
            x, y = x * u + self.n * y * v, x * v + y * u
        return [0, x, y, gap(self.n, x, y)]

    def are_kin(self, one, other):
        return gap(self.n, *one) == gap(self.n, *other) and self.bottom(*one)[1] == self.bottom(*other)[1]

    def ask_kin(self, i, j):
        if i not in range(len(self.store)) or j not in range(len(self.store)):
            return [-2]
        return [int(self.are_kin(self.store[i], self.store[j]))]

    def ask_families(self):
        families = {tuple(j for j, other in enumerate(self.store) if self.are_kin(pair, other))
                    for pair in self.store}
        return [len(families)] + [number for row in sorted(families) for number in (row[0], len(row))]

    def ask_sets(self, s, k):
        if s > 1 or k > MILLION:
            return [-22]
        found = []
        for mask in range(2 ** len(self.store)):
            gaps = [gap(self.n, *pair) for i, pair in enumerate(self.store) if mask >> i & 1]
            if prod(gaps) == k * (-1) ** s:
                found.append(mask)
        return [len(found)] + found

    def ask_kept(self):
        return [len(self.store)] + [number for pair in self.store for number in pair]

    def ask_itsnumber(self):
        if gap(self.n, *self.hand) != 1:
            return [-33]
        return [self.bottom(*self.hand)[0]]

    def ask_itsfirst(self):
        steps, (x, y) = self.bottom(*self.hand)
        return [steps, x, y]

    def ask_here(self):
        return self.pair(*self.hand)

    def ask_told(self):
        return [self.n, *self.hand, len(self.store), len(self.past)]

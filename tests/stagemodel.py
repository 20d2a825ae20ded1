"""A second, plain telling of the stages' calls, worked out in other ways than the program's."""

from fractions import Fraction
from functools import cache
from math import gcd, isqrt

from tests.lines import BILLION, MILLION, NS, flat, gap, least_by_search, numbered, pairs_by_search
from tests.model import Model


@cache
def small_pairs(n):
    """For each difference up to 60, either way, all pairs with y up to 2,000; the bound is far below that."""
    return pairs_by_search(n, 60, 2000)


@cache
def triples(n):
    """The first 61 triples, each with k by the words, not by its pair."""
    a = min(range(1, 9), key=lambda a: (abs(a * a - n), a))
    found = [(a, 1, a * a - n)]
    while len(found) < 61:
        a, b, k = found[-1]
        m = sorted((abs(m * m - n), m) for m in range(1, 2 * n + 1) if (a + m * b) % k == 0)[0][1]
        found.append(((a * m + n * b) // abs(k), (a + b * m) // abs(k), (m * m - n) // k))
    return found


def way(n):
    found = triples(n)
    return found[:[k for a, b, k in found].index(1) + 1]


def triangle_root(whole):
    """The m for which all numbers from 1 to m are that together, or None."""
    m = isqrt(2 * whole)
    return m if m * (m + 1) == 2 * whole else None


def root_of(square):
    root = isqrt(square)
    return root if root * root == square else None


def told_of(c, v):
    """All that's told of v as an answer of kind c, or None."""
    if c == 0:
        row = [v, root_of(v), triangle_root(v)]
    elif c == 1:
        row = [v, triangle_root(v * v)]
    elif c == 2:
        row = [v, v + 1, root_of(2 * v * v + 2 * v + 1)]
    elif c == 3:
        area = root_of(3 * v * v * (v * v - 4)) if v >= 3 else None
        row = [v - 1, v, v + 1, None if area is None or area % 4 else area // 4]
    else:
        # n times n, less n, is twice the triangle of n less 1.
        n = triangle_root(v * (v - 1))
        row = [v, None if n is None else n + 1]
    return None if None in row or v < (1, 1, 1, 3, 2)[c] else row


@cache
def answers_of(c):
    """All answers up to more than a thousand millions, with what's told of them."""
    # By turns 1, 0; 1, 1; 3, 2; ... with 2, and likewise 1, 0; 2, 1; 7, 4; ... with 3: candidates, each tried.
    candidates = set()
    x, y, u, w = 1, 0, 1, 0
    for turn in range(60):
        candidates |= {y // 2, (y // 2) ** 2, x // 2, (y + 1) // 2, 2 * u}
        x, y, u, w = x + 2 * y, x + y, 2 * u + 3 * w, u + 2 * w
    rows = [(v, told_of(c, v)) for v in sorted(candidates) if v <= BILLION ** 3]
    return [(v, row) for v, row in rows if row is not None]


class StageModel(Model):
    def ask_square(self):
        x, y = self.hand
        return self.pair(x * x + self.n * y * y, 2 * x * y)

    def ask_power(self, k):
        if k > 12:
            return [-22]
        (x, y), (u, v) = self.hand, (1, 0)
        for turn in range(k):
            u, v = u * x + self.n * v * y, u * y + v * x
        return self.pair(u, v)

    def ask_parted(self, u, v):
        if max(u, v) > MILLION:
            return [-22]
        if u == v == 0:
            return [-33]
        x, y = self.hand
        divisor = gap(self.n, u, v)
        a = Fraction(x * u - self.n * y * v, divisor)
        b = Fraction(y * u - x * v, divisor)
        if a.denominator != 1 or b.denominator != 1 or a < 0 or b < 0:
            return [-33]
        return self.pair(int(a), int(b))

    def ask_one(self):
        made = self.made_one()
        return [-33] if made is None else self.pair(*made)

    def nearest_to(self, y):
        x = isqrt(self.n * y * y)
        return min((x, y), (x + 1, y), key=lambda pair: (abs(gap(self.n, *pair)), pair))

    def ask_nearest(self, y):
        return self.pair(*self.nearest_to(y)) if 1 <= y <= 1000 else [-22]

    def ask_closest(self, b):
        if not 1 <= b <= 60:
            return [-22]
        return self.pair(*min((self.nearest_to(y) for y in range(1, b + 1)),
                              key=lambda pair: (abs(gap(self.n, *pair)), pair[1])))

    def ask_of(self, u, v):
        return [-22] if max(u, v) > MILLION else [0, gap(self.n, u, v)]

    def ask_both(self, u, v, s, t):
        return [-22] if max(u, v, s, t) > MILLION else self.pair(u * s + self.n * v * t, u * t + v * s)

    def ask_root(self, m):
        return [-22] if m > 10000 else [isqrt(m), m - isqrt(m) ** 2]

    def ask_steps(self, j):
        return [-22] if j > 60 else [0, *triples(self.n)[j]]

    def ask_way(self):
        return [len(way(self.n))] + flat((a, b) for a, b, k in way(self.n))

    def ask_diffs(self):
        return [len(way(self.n))] + [k for a, b, k in way(self.n)]

    def ask_leastof(self, n):
        return [0, *least_by_search(n)] if n in NS else [-22]

    def ask_long(self, n):
        return [len(way(n)) - 1] if n in NS else [-22]

    def ask_short(self):
        return [0, *[triple for triple in way(self.n) if abs(triple[2]) in (1, 2, 4)][0]]

    def ask_longest(self, b):
        if not 2 <= b <= 60:
            return [-22]
        steps, least = min((1 - len(way(n)), n) for n in NS if n <= b)
        return [least, -steps]

    def ask_greatest(self, b):
        if not 2 <= b <= 60:
            return [-22]
        x, least = min((-least_by_search(n)[0], n) for n in NS if n <= b)
        return [least, -x]

    def ask_minus(self, n):
        if n not in NS:
            return [-22]
        return ([[0, a, b] for a, b, k in way(n) if k == -1] + [[-33]])[0]

    def ask_nth(self, n, k):
        return [0, *numbered(n, k)] if n in NS and k <= 12 else [-22]

    def ask_number(self, x, y):
        if gap(self.n, x, y) != 1:
            return [-33]
        return [[numbered(self.n, k) for k in range(20)].index((x, y))]

    def ask_is(self, x, y):
        return [int(gap(self.n, x, y) == 1)]

    def ask_above(self, b):
        return [[k, *numbered(self.n, k)] for k in range(20) if numbered(self.n, k)[1] >= b][0]

    def ask_many(self, b):
        return [sum(numbered(self.n, k)[1] <= b for k in range(20))]

    def ask_divides(self, j, k):
        if not 1 <= j <= 12 or k > 12:
            return [-22]
        # One y divides the other just if its number does.
        return [int(k % j == 0)]

    def ask_common(self, j, k):
        return [-22] if max(j, k) > 12 else [0, numbered(self.n, gcd(j, k))[1]]

    def ask_together(self, j, k):
        return [-22] if max(j, k) > 12 else [0, *numbered(self.n, j + k)]

    def ask_rule(self, k):
        return [0, *numbered(self.n, k)] if 2 <= k <= 12 else [-22]

    def ask_rootby(self, k, b):
        if not 1 <= k <= 12 or b > MILLION:
            return [-22]
        x, y = numbered(self.n, k)
        return [0, int(Fraction(b * x, y)), isqrt(self.n * b * b)]

    def ask_leftof(self, m, k):
        return [0, *[number % m for number in numbered(self.n, k)]] if 1 <= m <= 1000 and k <= 12 else [-22]

    def ask_round(self, m):
        if not 1 <= m <= 100:
            return [-22]
        (p, q), (x, y), turns = self.one, self.one, 1
        while (x - 1) % m or y % m:
            x, y, turns = p * x + self.n * q * y, q * x + p * y, turns + 1
        return [turns]

    def ask_first(self):
        return self.ask_itsfirst()

    def ask_isfirst(self):
        return [int(self.bottom(*self.hand)[0] == 0)]

    def ask_other(self):
        return [0, *self.below(*self.hand)]

    def having(self, s, k):
        return small_pairs(self.n).get(-k if s else k, [])

    def ask_firsts(self, s, k):
        if s > 1 or not 1 <= k <= 60:
            return [-22]
        found = [pair for pair in self.having(s, k) if self.bottom(*pair)[0] == 0]
        return [len(found)] + flat(found)

    def ask_can(self, s, k):
        return [int(bool(self.having(s, k)))] if s <= 1 and 1 <= k <= 60 else [-22]

    def ask_least(self, s, k):
        if s > 1 or not 1 <= k <= 60:
            return [-22]
        return [0, *self.having(s, k)[0]] if self.having(s, k) else [-33]

    def ask_upto(self, s, k, b):
        if s > 1 or not 1 <= k <= 60 or b > 300:
            return [-22]
        found = [pair for pair in self.having(s, k) if pair[1] <= b]
        return [len(found)] + flat(found)

    def ask_manyupto(self, s, k, b):
        if s > 1 or not 1 <= k <= 60 or b > 2000:
            return [-22]
        return [sum(y <= b for x, y in self.having(s, k))]

    def ask_bound(self, k):
        p, q = self.one
        return [isqrt(int(Fraction(q * q * k, 2 * (p - 1))))] if 1 <= k <= 60 else [-22]

    def ask_which(self, s, b):
        if s > 1 or b > 60:
            return [-22]
        found = [k for k in range(1, b + 1) if self.having(s, k)]
        return [len(found)] + found

    def ask_withy(self, s, k, y):
        if s > 1 or not 1 <= k <= 60 or y > MILLION:
            return [-22]
        near = isqrt(self.n * y * y)
        for x in range(max(near - 60, 0), near + 61):
            if gap(self.n, x, y) == (-k if s else k):
                return [0, x, y]
        return [-33]

    def ask_answer(self, c, k):
        return [0, *answers_of(c)[k - 1][1]] if c <= 4 and 1 <= k <= 12 else [-22]

    def ask_isanswer(self, c, v):
        return [int(told_of(c, v) is not None)] if c <= 4 and v <= BILLION else [-22]

    def ask_answernumber(self, c, v):
        return self.ask_answerof(c, v)[:1]

    def ask_answerof(self, c, v):
        if c > 4 or v > BILLION:
            return [-22]
        for k, (value, row) in enumerate(answers_of(c), start=1):
            if value == v:
                return [k, *row]
        return [-33]

    def ask_answerabove(self, c, b):
        if c > 4 or b > BILLION:
            return [-22]
        return [[k, value] for k, (value, row) in enumerate(answers_of(c), start=1) if value >= b][0]

    def ask_manyanswers(self, c, b):
        return [sum(value <= b for value, row in answers_of(c))] if c <= 4 and b <= BILLION else [-22]

    def ask_answers(self, c, b):
        if c > 4 or b > 2000:
            return [-22]
        found = [v for v in range(1, b + 1) if told_of(c, v) is not None]
        return [len(found)] + found

    def ask_answerrule(self, c, k):
        return [0, answers_of(c)[k - 1][0]] if c <= 4 and 3 <= k <= 12 else [-22]

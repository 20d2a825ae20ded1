"""What the document says always holds of the stages' later calls, over many inputs."""

import unittest
from math import gcd, isqrt

from tests.lines import BILLION, NS, ask, ask_all, flat, gap, last, least_by_search, pairs_by_search

NUMBERS = range(13)
EITHER = [(s, k) for s in (0, 1) for k in range(1, 61)]


def numbers_of(n):
    """Pairs 0 to 12, as the program tells them."""
    return [tuple(row[1:]) for row in ask("begin 2", *[f"nth {n} {k}" for k in NUMBERS])[1:]]


def two(numbers):
    """Numbers that are told one behind another as pairs."""
    return list(zip(numbers[0::2], numbers[1::2]))


class TheRoundWay(unittest.TestCase):
    def test_comes_by_minus_one_just_if_some_pair_has_it(self):
        for n in NS:
            least = least_by_search(n)
            some = [(isqrt(n * y * y - 1), y) for y in range(1, least[1] + 1) if gap(n, isqrt(n * y * y - 1), y) == -1]
            row = last("begin 2", f"minus {n}")
            self.assertEqual(row, [0, *some[0]] if some else [-33])

    def test_put_together_with_itself_that_is_the_least(self):
        found = 0
        for n in NS:
            row = last("begin 2", f"minus {n}")
            if row != [-33]:
                found += 1
                x, y = row[1:]
                self.assertEqual(last(f"begin {n}", f"both {x} {y} {x} {y}"), [0, *least_by_search(n), 1])
        self.assertGreater(found, 10)

    def test_minus_and_least_are_on_the_way(self):
        for n in NS:
            way, diffs, least, minus = ask(f"begin {n}", "way", "diffs", f"leastof {n}", f"minus {n}")[1:]
            pairs = two(way[1:])
            self.assertEqual(pairs[-1], tuple(least[1:]))
            self.assertEqual(minus == [-33], -1 not in diffs[1:])
            if minus != [-33]:
                self.assertEqual(pairs[diffs[1:].index(-1)], tuple(minus[1:]))

    def test_what_short_tells_makes_a_pair_with_the_difference_1(self):
        for n in NS:
            a, b, k = last(f"begin {n}", "short")[1:]
            self.assertEqual(gap(n, a, b), k)
            self.assertEqual(last(f"begin {n}", f"pair {a} {b}", "one")[3], 1)
            self.assertIn((a, b), two(last(f"begin {n}", "way")[1:]))

    def test_none_is_longer_than_the_longest_nor_greater_than_the_greatest(self):
        for b in range(2, 61):
            ns = [n for n in NS if n <= b]
            longs = [row[0] for row in ask("begin 2", *[f"long {n}" for n in ns])[1:]]
            xs = [row[1] for row in ask("begin 2", *[f"leastof {n}" for n in ns])[1:]]
            self.assertEqual(last("begin 2", f"longest {b}"), [ns[longs.index(max(longs))], max(longs)])
            self.assertEqual(last("begin 2", f"greatest {b}"), [ns[xs.index(max(xs))], max(xs)])


class AllOthers(unittest.TestCase):
    def test_all_have_the_difference_1_and_rise(self):
        for n in NS:
            pairs = numbers_of(n)
            self.assertEqual([gap(n, x, y) for x, y in pairs], [1] * 13)
            self.assertEqual([y for x, y in pairs], sorted({y for x, y in pairs}))

    def test_there_are_no_others(self):
        for n in NS:
            searched = pairs_by_search(n, 1, 20000)[1]
            rows = ask(f"begin {n}", *[f"number {x} {y}" for x, y in searched], "many 20000")[1:]
            self.assertEqual(rows, [[k] for k in range(len(searched))] + [[len(searched)]])
            self.assertEqual(numbers_of(n)[:len(searched)], searched)

    def test_none_lies_between(self):
        for n in NS:
            pairs = [pair for pair in numbers_of(n) if pair[1] < 4 * BILLION]
            for k, (x, y) in enumerate(pairs):
                self.assertEqual(ask(f"begin {n}", f"above {y}", f"many {y}")[1:], [[k, x, y], [k + 1]])
                self.assertEqual(last(f"begin {n}", f"above {y + 1}")[0], k + 1)

    def test_what_two_have_in_common(self):
        for n in NS:
            ys = [y for x, y in numbers_of(n)]
            places = [(j, k) for j in NUMBERS for k in NUMBERS]
            for (j, k), row in zip(places, ask_all(f"begin {n}", [f"common {j} {k}" for j, k in places])):
                self.assertEqual(row, [0, ys[gcd(j, k)]], (n, j, k))

    def test_one_divides_the_other_just_if_its_number_does(self):
        for n in NS:
            places = [(j, k) for j in NUMBERS[1:] for k in NUMBERS]
            for (j, k), row in zip(places, ask_all(f"begin {n}", [f"divides {j} {k}" for j, k in places])):
                self.assertEqual(row, [int(k % j == 0)], (n, j, k))

    def test_each_is_told_by_the_two_before_it(self):
        for n in NS:
            pairs = numbers_of(n)
            p = pairs[1][0]
            rows = ask(f"begin {n}", *[f"rule {k}" for k in NUMBERS[2:]])[1:]
            for k, row in zip(NUMBERS[2:], rows):
                self.assertEqual(row, [0, *pairs[k]])
                self.assertEqual(row[1:], [2 * p * one - other for one, other in zip(pairs[k - 1], pairs[k - 2])])

    def test_put_together_numbers_are_added(self):
        for n in NS:
            pairs = numbers_of(n)
            for j in NUMBERS:
                rows = ask(f"begin {n}", *[f"together {j} {k}" for k in range(13 - j)])[1:]
                self.assertEqual(rows, [[0, *pairs[j + k]] for k in range(13 - j)])

    def test_divided_by_any_number_they_come_round(self):
        for n in NS:
            pairs = numbers_of(n)
            rounds = [row[0] for row in ask(f"begin {n}", *[f"round {m}" for m in range(1, 101)])[1:]]
            for m, turns in zip(range(1, 101), rounds):
                lefts = [tuple(row[1:]) for row in ask(f"begin {n}", *[f"leftof {m} {k}" for k in NUMBERS])[1:]]
                self.assertEqual(lefts, [(x % m, y % m) for x, y in pairs])
                for k in NUMBERS[1:]:
                    self.assertEqual(lefts[k] == lefts[0], k % turns == 0, (n, m, k))
                    if k >= turns:
                        self.assertEqual(lefts[k], lefts[k - turns])

    def test_less_often_than_its_y_each_tells_the_root(self):
        for n in NS:
            pairs = numbers_of(n)
            for k in range(1, 13):
                x, y = pairs[k]
                texts = [f"rootby {k} {b}" for b in (0, 1, 2, 3, 7, 99, 1000, y // 2, y - 2, y - 1, 999999, 1000000)
                         if 0 <= b < y and b <= 1000000]
                for text, row in zip(texts, ask(f"begin {n}", *texts)[1:]):
                    self.assertEqual(row[1], row[2], (n, text))
                    b = int(text.split()[2])
                    self.assertTrue(row[1] ** 2 <= n * b * b < (row[1] + 1) ** 2)
                # As often as its y it's one more.
                if y <= 1000000:
                    self.assertEqual(last(f"begin {n}", f"rootby {k} {y}"), [0, x, x - 1])


class OtherDifferences(unittest.TestCase):
    def test_first_ones_are_those_told_and_no_others_none_above_the_bound(self):
        for n in NS:
            searched = pairs_by_search(n, 60, 1000)
            bounds = [None] + [row[0] for row in ask(f"begin {n}", *[f"bound {k}" for k in range(1, 61)])[1:]]
            rows = ask_all(f"begin {n}", [f"firsts {s} {k}" for s, k in EITHER])
            for (s, k), row in zip(EITHER, rows):
                pairs = searched.get(-k if s else k, [])
                texts = []
                for x, y in pairs:
                    texts += [f"pair {x} {y}", "isfirst"]
                first = [pair for pair, told in zip(pairs, ask_all(f"begin {n}", texts)[1::2]) if told == [1]]
                self.assertEqual(row, [len(first)] + flat(first), (n, s, k))
                self.assertTrue(all(y <= bounds[k] for x, y in first), (n, s, k))

    def test_all_pairs_come_of_first_ones(self):
        compared = 0
        for n in NS:
            searched = pairs_by_search(n, 60, 400)
            rows = ask_all(f"begin {n}", [f"firsts {s} {k}" for s, k in EITHER])
            for (s, k), row in zip(EITHER, rows):
                for x, y in searched.get(-k if s else k, []):
                    steps, u, v = last(f"begin {n}", f"pair {x} {y}", "first")
                    self.assertIn((u, v), two(row[1:]))
                    self.assertEqual(gap(n, u, v), gap(n, x, y))
                    compared += 1
        self.assertGreater(compared, 2000)

    def test_a_pair_just_if_one_is_no_greater_than_the_bound(self):
        for n in NS:
            searched = pairs_by_search(n, 60, 5000)
            bounds = [row[0] for row in ask(f"begin {n}", *[f"bound {k}" for k in range(1, 61)])[1:]]
            can = ask_all(f"begin {n}", [f"can {s} {k}" for s, k in EITHER])
            many = ask_all(f"begin {n}", [f"manyupto {s} {k} {bounds[k - 1]}" for s, k in EITHER])
            for (s, k), row, count in zip(EITHER, can, many):
                self.assertEqual(row, [int((-k if s else k) in searched)], (n, s, k))
                self.assertEqual(row, [min(count[0], 1)], (n, s, k))

    def test_what_is_told_of_one_difference_fits_together(self):
        for n in NS:
            for s in (0, 1):
                which = last(f"begin {n}", f"which {s} 60")
                texts = [f"{name} {s} {k}" for k in range(1, 61) for name in ("can", "least", "firsts")]
                rows = ask_all(f"begin {n}", texts)
                self.assertEqual(which[1:], [k for k in range(1, 61) if rows[3 * k - 3] == [1]])
                for k in range(1, 61):
                    can, least, firsts = rows[3 * k - 3:3 * k]
                    self.assertEqual(least[0] == 0, can == [1])
                    self.assertEqual(firsts[0] > 0, can == [1])
                    if can == [1]:
                        # The least of all is a first one, and so the least of these.
                        self.assertEqual(firsts[1:3], least[1:])
                        self.assertEqual(last(f"begin {n}", f"withy {s} {k} {least[2]}"), least)

    def test_first_is_itsfirst_and_other_is_down(self):
        for n in NS:
            for x, y in ((5, 3), (17, 12), (45, 17), (0, 1), (1, 0), (649, 180), (1000000, 999999)):
                first, itsfirst, isfirst, other, down = ask(
                    f"begin {n}", f"pair {x} {y}", "first", "itsfirst", "isfirst", "other", "down")[2:]
                self.assertEqual(first, itsfirst)
                self.assertEqual(isfirst == [1], down == [-16])
                self.assertEqual(gap(n, *other[1:]), gap(n, x, y))
                if down != [-16]:
                    self.assertEqual(down[:3], other)


class WhereItsMet(unittest.TestCase):
    def value(self, c, row):
        return row[2] if c == 3 else row[1]

    def test_they_rise_each_by_its_number(self):
        for c in range(5):
            values = [self.value(c, row) for row in ask("begin 2", *[f"answer {c} {k}" for k in range(1, 13)])[1:]]
            self.assertEqual(values, sorted(set(values)))
            for k, v in enumerate(values, start=1):
                if v <= BILLION:
                    rows = ask("begin 2", f"isanswer {c} {v}", f"answernumber {c} {v}", f"answerof {c} {v}",
                               f"answer {c} {k}", f"answerabove {c} {v}", f"manyanswers {c} {v}")[1:]
                    self.assertEqual(rows, [[1], [k], [k, *rows[3][1:]], rows[3], [k, v], [k]])

    def test_each_is_told_by_the_two_before_it(self):
        rules = (lambda a, b: 34 * a - b + 2, lambda a, b: 6 * a - b, lambda a, b: 6 * a - b + 2,
                 lambda a, b: 4 * a - b, lambda a, b: 6 * a - b - 2)
        for c in range(5):
            values = [self.value(c, row) for row in ask("begin 2", *[f"answer {c} {k}" for k in range(1, 13)])[1:]]
            for k in range(3, 13):
                self.assertEqual(last("begin 2", f"answerrule {c} {k}"), [0, values[k - 1]])
                self.assertEqual(rules[c](values[k - 2], values[k - 3]), values[k - 1])

    def test_what_is_told_of_each_is_so(self):
        for k in range(1, 13):
            rows = [row[1:] for row in ask("begin 2", *[f"answer {c} {k}" for c in range(5)])[1:]]
            v, r, m = rows[0]
            self.assertEqual((r * r, m * (m + 1) // 2), (v, v))
            v, m = rows[1]
            self.assertEqual(v * (v - 1) // 2, m * (m + 1) // 2 - v * (v + 1) // 2)
            v, after, h = rows[2]
            self.assertEqual((after, v * v + after * after), (v + 1, h * h))
            short, v, long, area = rows[3]
            self.assertEqual((short, long), (v - 1, v + 1))
            self.assertEqual(16 * area * area, 3 * v * (v + 2) * v * (v - 2))
            v, n = rows[4]
            self.assertEqual(2 * v * (v - 1), n * (n - 1))

    def test_just_these(self):
        # Each number up to a bound is tried by what the riddle says, none by the program's way.
        def is_square(number):
            return isqrt(number) ** 2 == number
        tried = (
            [v for r in range(1, 31623) for v in (r * r,) if is_square(8 * v + 1)],
            [v for v in range(1, 300000) if is_square(8 * v * v + 1)],
            [v for v in range(1, 300000) if is_square(2 * v * v + 2 * v + 1)],
            [v for v in range(3, 300000) if v % 2 == 0 and is_square(3 * (v * v // 4 - 1))],
            [v for v in range(2, 300000) if is_square(8 * v * (v - 1) + 1)],
        )
        for c, values in enumerate(tried):
            top = BILLION if c == 0 else 299999
            rows = ask("begin 2", f"manyanswers {c} {top}", *[f"answernumber {c} {v}" for v in values])[1:]
            self.assertEqual(rows, [[len(values)]] + [[k] for k in range(1, len(values) + 1)])

    def test_pairs_by_turns(self):
        turns = [(1, 0)]
        while turns[-1][1] <= 300:
            x, y = turns[-1]
            turns.append((x + 2 * y, x + y))
        fitting = turns[:-1]
        for s, pairs in ((0, fitting[0::2]), (1, fitting[1::2])):
            self.assertEqual(last("begin 2", f"upto {s} 1 300"), [len(pairs)] + flat(pairs))


if __name__ == "__main__":
    unittest.main()

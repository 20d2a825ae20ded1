"""first, isfirst, firsts, can, least, upto, manyupto, bound, which, withy, other."""

import unittest
from math import isqrt

from tests.lines import BILLION, GREATEST, MILLION, NS, Asking, ask, ask_all, flat, gap, last
from tests.lines import least_by_search, pairs_by_search, step_down

BEFORE = ["begin 2", "pair 3 1"]
# Wrong s, wrong k, both, and the greatest that can be handed over.
WRONG = ((2, 1), (GREATEST, 1), (0, 0), (1, 0), (0, 61), (1, 61), (0, GREATEST), (2, 0), (2, 61), (GREATEST, GREATEST))
EITHER = [(s, k) for s in (0, 1) for k in range(1, 61)]


def signed(s, k):
    return -k if s else k


class FirstIsFirstOther(Asking):
    def test_a_first_one(self):
        for n, x, y in ((2, 1, 0), (2, 0, 1), (2, 3, 1), (7, 3, 1), (2, 1, 1), (2, MILLION, 0), (3, 0, MILLION)):
            rows = ask(f"begin {n}", f"pair {x} {y}", "first", "isfirst", "told")
            self.assertEqual(rows[2:], [[0, x, y], [1], [n, x, y, 0, 1]])

    def test_some_steps(self):
        self.assertEqual(ask("begin 2", "pair 5 3", "first", "isfirst", "other")[2:], [[1, 3, 1], [0], [0, 3, 1]])
        self.assertEqual(ask("begin 2", "pair 665857 470832", "first", "other")[2:], [[8, 1, 0], [0, 114243, 80782]])
        self.assertEqual(ask("begin 46", "pair 24335 3588", "first", "isfirst", "other")[2:],
                         [[1, 1, 0], [0], [0, 1, 0]])

    def test_as_great_is_first_too(self):
        self.assertEqual(ask("begin 2", "pair 2 1", "first", "isfirst", "other")[2:], [[0, 2, 1], [1], [0, 2, 1]])

    def test_other_whatever_it_is(self):
        self.assertEqual(last("begin 2", "other"), [0, 3, 2])
        self.assertEqual(last("begin 2", "pair 0 1", "other"), [0, 4, 3])
        self.assertEqual(last("begin 53", "other"), [0, 66249, 9100])
        self.assertEqual(last("begin 53", "pair 0 1", "other"), [0, 53 * 9100, 66249])
        self.assertEqual(last("begin 53", f"pair 0 {MILLION}", "other"), [0, 53 * 9100 * MILLION, 66249 * MILLION])

    def test_a_million(self):
        for n in (2, 46, 53, 60):
            rows = ask(f"begin {n}", f"pair {MILLION} {MILLION}", "first", "isfirst", "other")
            steps, x, y = 0, MILLION, MILLION
            while step_down(n, x, y)[1] < y:
                x, y = step_down(n, x, y)
                steps += 1
            self.assertEqual(rows[2:], [[steps, x, y], [int(steps == 0)], [0, *step_down(n, MILLION, MILLION)]])

    def test_all_small_pairs(self):
        for n in (2, 3, 7, 10, 46, 53):
            for x in range(12):
                for y in range(12):
                    if (x, y) == (0, 0):
                        continue
                    rows = ask(f"begin {n}", f"pair {x} {y}", "first", "itsfirst", "isfirst", "other", "told")
                    down = step_down(n, x, y)
                    self.assertEqual(rows[4:], [[int(down[1] >= y)], [0, *down], [n, x, y, 0, 1]])
                    self.assertEqual(rows[2], rows[3])
                    self.assertEqual(rows[2][0] == 0, down[1] >= y)


class Firsts(Asking):
    def test_some(self):
        self.assertEqual(last("begin 2", "firsts 0 1"), [1, 1, 0])
        self.assertEqual(last("begin 2", "firsts 1 1"), [1, 1, 1])
        self.assertEqual(last("begin 2", "firsts 0 7"), [1, 3, 1])
        self.assertEqual(last("begin 2", "firsts 0 2"), [1, 2, 1])
        self.assertEqual(last("begin 2", "firsts 1 2"), [1, 0, 1])

    def test_two_of_one_difference(self):
        self.assertEqual(last("begin 7", "firsts 0 9"), [2, 3, 0, 4, 1])
        self.assertEqual(last("begin 10", "firsts 0 9"), [2, 3, 0, 7, 2])

    def test_none(self):
        for text in ("firsts 0 3", "firsts 1 3", "firsts 0 5", "firsts 0 60", "firsts 1 60"):
            self.assertEqual(last("begin 2", text), [0])

    def test_60_either_way(self):
        self.assertEqual(last("begin 6", "firsts 0 60"), [0])
        self.assertEqual(last("begin 60", "firsts 1 60"), [2, 0, 1, 30, 4])
        self.assertEqual(last("begin 46", "firsts 0 60"), [0])
        self.assertEqual(last("begin 21", "firsts 0 60"), [3, 9, 1, 12, 2, 33, 7])

    def test_each(self):
        for n in NS:
            found = pairs_by_search(n, 60, 300)
            for (s, k), row in zip(EITHER, ask_all(f"begin {n}", [f"firsts {s} {k}" for s, k in EITHER])):
                pairs = [(x, y) for x, y in found.get(signed(s, k), []) if step_down(n, x, y)[1] >= y]
                self.assertEqual(row, [len(pairs)] + flat(pairs), (n, s, k))

    def test_refused(self):
        for s, k in WRONG:
            self.refused(BEFORE, f"firsts {s} {k}", -22)


class CanAndLeast(Asking):
    def test_a_square(self):
        for n in NS:
            for root in range(1, 8):
                self.assertEqual(ask(f"begin {n}", f"can 0 {root * root}", f"least 0 {root * root}")[1:],
                                 [[1], [0, root, 0]])

    def test_y_of_0_is_the_least(self):
        # 4, 1 has the difference 9, too.
        self.assertEqual(last("begin 7", "least 0 9"), [0, 3, 0])

    def test_n_of_2_46_53(self):
        self.assertEqual(ask("begin 2", "can 1 1", "least 1 1", "can 0 7", "least 0 7")[1:],
                         [[1], [0, 1, 1], [1], [0, 3, 1]])
        self.assertEqual(ask("begin 46", "can 0 2", "least 0 2", "can 1 1")[1:], [[1], [0, 156, 23], [0]])
        self.assertEqual(ask("begin 53", "can 1 1", "least 1 1")[1:], [[1], [0, 182, 25]])

    def test_one_that_none_has(self):
        for n, s, k in ((2, 0, 3), (2, 1, 3), (2, 0, 5), (2, 0, 60), (2, 1, 60), (3, 1, 1), (46, 1, 1), (53, 0, 2)):
            self.assertEqual(last(f"begin {n}", f"can {s} {k}"), [0])
            self.refused([f"begin {n}", "pair 3 1"], f"least {s} {k}", -33)

    def test_each(self):
        for n in NS:
            found = pairs_by_search(n, 60, 300)
            can = ask_all(f"begin {n}", [f"can {s} {k}" for s, k in EITHER])
            least = ask_all(f"begin {n}", [f"least {s} {k}" for s, k in EITHER])
            for (s, k), row, other in zip(EITHER, can, least):
                pairs = found.get(signed(s, k), [])
                self.assertEqual(row, [int(bool(pairs))], (n, s, k))
                self.assertEqual(other, [0, *pairs[0]] if pairs else [-33], (n, s, k))

    def test_refused(self):
        for s, k in WRONG:
            self.refused(BEFORE, f"can {s} {k}", -22)
            self.refused(BEFORE, f"least {s} {k}", -22)


class UpTo(Asking):
    def test_some(self):
        self.assertEqual(last("begin 2", "upto 0 1 12"), [3, 1, 0, 3, 2, 17, 12])
        self.assertEqual(last("begin 2", "upto 0 1 11"), [2, 1, 0, 3, 2])
        self.assertEqual(last("begin 7", "upto 0 9 4"), [3, 3, 0, 4, 1, 11, 4])
        self.assertEqual(last("begin 2", "upto 1 2 3"), [2, 0, 1, 4, 3])
        self.assertEqual(last("begin 2", "upto 0 3 300"), [0])

    def test_up_to_nothing(self):
        self.assertEqual(ask("begin 7", "upto 0 9 0", "upto 0 8 0", "upto 1 9 0")[1:], [[1, 3, 0], [0], [0]])
        self.assertEqual(ask("begin 7", "manyupto 0 9 0", "manyupto 0 8 0", "manyupto 1 9 0")[1:], [[1], [0], [0]])

    def test_each(self):
        for n in NS:
            found = pairs_by_search(n, 60, 300)
            for b in (1, 17, 300):
                upto = ask_all(f"begin {n}", [f"upto {s} {k} {b}" for s, k in EITHER])
                many = ask_all(f"begin {n}", [f"manyupto {s} {k} {b}" for s, k in EITHER])
                for (s, k), row, other in zip(EITHER, upto, many):
                    pairs = [(x, y) for x, y in found.get(signed(s, k), []) if y <= b]
                    self.assertEqual(row, [len(pairs)] + flat(pairs), (n, s, k, b))
                    self.assertEqual(other, [len(pairs)], (n, s, k, b))

    def test_manyupto_2000(self):
        for n in (2, 7, 46, 53, 60):
            found = pairs_by_search(n, 60, 2000)
            for b in (1999, 2000):
                rows = ask_all(f"begin {n}", [f"manyupto {s} {k} {b}" for s, k in EITHER])
                for (s, k), row in zip(EITHER, rows):
                    self.assertEqual(row, [sum(y <= b for x, y in found.get(signed(s, k), []))], (n, s, k, b))

    def test_the_last_y_counts(self):
        # 408 is above 300, so it can be counted alone.
        self.assertEqual(ask("begin 2", "manyupto 0 1 407", "manyupto 0 1 408")[1:], [[4], [5]])

    def test_refused(self):
        for s, k in WRONG:
            for b in (0, 5, GREATEST):
                self.refused(BEFORE, f"upto {s} {k} {b}", -22)
                self.refused(BEFORE, f"manyupto {s} {k} {b}", -22)
        for b in (301, 2000, GREATEST):
            self.refused(BEFORE, f"upto 0 1 {b}", -22)
        for b in (2001, GREATEST):
            self.refused(BEFORE, f"manyupto 0 1 {b}", -22)


class Bound(Asking):
    def test_some(self):
        self.assertEqual(last("begin 2", "bound 1"), [1])
        self.assertEqual(last("begin 2", "bound 60"), [7])
        self.assertEqual(last("begin 53", "bound 60"), [193])
        self.assertEqual(last("begin 46", "bound 60"), [125])
        self.assertEqual(last("begin 3", "bound 1"), [0])
        self.assertEqual(last("begin 3", "bound 2"), [1])

    def test_each(self):
        for n in NS:
            p, q = least_by_search(n)
            rows = ask(f"begin {n}", "pair 5 5", *[f"bound {k}" for k in range(1, 61)], "told")
            self.assertEqual(rows[2:-1], [[isqrt(q * q * k // (2 * (p - 1)))] for k in range(1, 61)])
            self.assertEqual(rows[-1], [n, 5, 5, 0, 1])

    def test_refused(self):
        for k in (0, 61, GREATEST):
            self.refused(BEFORE, f"bound {k}", -22)


class Which(Asking):
    def test_some(self):
        self.assertEqual(last("begin 2", "which 0 10"), [6, 1, 2, 4, 7, 8, 9])
        self.assertEqual(last("begin 3", "which 0 10"), [4, 1, 4, 6, 9])
        self.assertEqual(last("begin 3", "which 1 10"), [3, 2, 3, 8])

    def test_up_to_nothing(self):
        self.assertEqual(ask("begin 2", "which 0 0", "which 1 0")[1:], [[0], [0]])

    def test_each(self):
        for n in NS:
            found = pairs_by_search(n, 60, 300)
            for s in (0, 1):
                for b in (1, 2, 30, 59, 60):
                    ks = [k for k in range(1, b + 1) if signed(s, k) in found]
                    self.assertEqual(last(f"begin {n}", f"which {s} {b}"), [len(ks)] + ks, (n, s, b))

    def test_refused(self):
        for s, b in ((2, 1), (2, 0), (GREATEST, 60), (0, 61), (1, 61), (0, GREATEST), (GREATEST, GREATEST)):
            self.refused(BEFORE, f"which {s} {b}", -22)


class WithY(Asking):
    def test_some(self):
        self.assertEqual(last("begin 2", "withy 0 1 2"), [0, 3, 2])
        self.assertEqual(last("begin 2", "withy 1 1 5"), [0, 7, 5])
        self.assertEqual(last("begin 2", "withy 1 2 1"), [0, 0, 1])
        self.assertEqual(last("begin 60", "withy 1 60 1"), [0, 0, 1])
        self.assertEqual(last("begin 46", "withy 0 1 3588"), [0, 24335, 3588])
        self.assertEqual(last("begin 53", "withy 0 1 9100"), [0, 66249, 9100])
        self.assertEqual(last("begin 2", "withy 0 1 470832"), [0, 665857, 470832])

    def test_y_of_0(self):
        self.assertEqual(last("begin 2", "withy 0 49 0"), [0, 7, 0])
        self.refused(BEFORE, "withy 0 48 0", -33)
        self.refused(BEFORE, "withy 1 49 0", -33)

    def test_each(self):
        for n in (2, 3, 7, 46, 53, 60):
            found = pairs_by_search(n, 60, 40)
            for y in range(41):
                for (s, k), row in zip(EITHER, ask_all(f"begin {n}", [f"withy {s} {k} {y}" for s, k in EITHER])):
                    pairs = [pair for pair in found.get(signed(s, k), []) if pair[1] == y]
                    self.assertEqual(row, [0, *pairs[0]] if pairs else [-33], (n, s, k, y))

    def test_a_million(self):
        self.refused(BEFORE, f"withy 0 1 {MILLION}", -33)
        found = 0
        for n in NS:
            # Few of these have a difference of 60 or less; those that have are told.
            for y in range(MILLION - 30000, MILLION + 1):
                x = isqrt(n * y * y) + 1
                for s, k in ((0, gap(n, x, y)), (1, -gap(n, x - 1, y))):
                    if k <= 60:
                        self.assertEqual(last(f"begin {n}", f"withy {s} {k} {y}"), [0, x - s, y])
                        found += 1
        self.assertGreater(found, 5)

    def test_refused_for_its_numbers_first(self):
        for s, k in WRONG:
            for y in (0, 3, MILLION + 1, GREATEST):
                self.refused(BEFORE, f"withy {s} {k} {y}", -22)
        for y in (MILLION + 1, BILLION, GREATEST):
            self.refused(BEFORE, f"withy 0 3 {y}", -22)
        # That pair has the difference 1, but its y is above the bound.
        self.assertEqual(gap(2, 22619537, 15994428), 1)
        self.refused(["begin 2"], "withy 0 1 15994428", -22)

    def test_refused_where_no_x_makes_it(self):
        for s, k, y in ((0, 3, 5), (1, 60, 1), (1, 1, 0), (0, 1, 1), (0, 2, 0)):
            self.refused(BEFORE, f"withy {s} {k} {y}", -33)


if __name__ == "__main__":
    unittest.main()

"""nth, number, is, above, many, divides, common, together, rule, rootby, leftof, round."""

import unittest
from math import gcd, isqrt

from tests.lines import GREATEST, MILLION, NS, WRONG_NS, Asking, ask, ask_all, gap, last, numbered

BEFORE = ["begin 2", "pair 3 1"]


class Nth(Asking):
    def test_numbers_0_to_12_of_each(self):
        for n in NS:
            rows = ask("begin 7", "pair 5 5", *[f"nth {n} {k}" for k in range(13)], "told")
            self.assertEqual(rows[2:15], [[0, *numbered(n, k)] for k in range(13)])
            self.assertEqual(rows[15], [7, 5, 5, 0, 1])

    def test_ends(self):
        self.assertEqual(last("begin 7", "nth 2 0"), [0, 1, 0])
        self.assertEqual(last("begin 7", "nth 2 1"), [0, 3, 2])
        self.assertEqual(last("begin 7", "nth 2 12"), [0, 768398401, 543339720])
        self.assertEqual(last("begin 2", "nth 46 1"), [0, 24335, 3588])
        self.assertEqual(last("begin 2", "nth 53 0"), [0, 1, 0])
        x, y = last("begin 2", "nth 53 12")[1:]
        self.assertEqual((gap(53, x, y), len(str(x))), (1, 62))

    def test_refused(self):
        for n in WRONG_NS:
            self.refused(BEFORE, f"nth {n} 1", -22)
        for k in (13, 100, GREATEST):
            self.refused(BEFORE, f"nth 2 {k}", -22)
        self.refused(BEFORE, f"nth 4 {GREATEST}", -22)


class NumberAndIs(Asking):
    def test_each_that_can_be_handed_over(self):
        told = 0
        for n in NS:
            pairs = [numbered(n, k) for k in range(20)]
            pairs = [pair for pair in pairs if max(pair) <= GREATEST]
            rows = ask(f"begin {n}", "pair 5 5", *[f"number {x} {y}" for x, y in pairs],
                       *[f"is {x} {y}" for x, y in pairs], "told")
            self.assertEqual(rows[2:], [[k] for k in range(len(pairs))] + [[1]] * len(pairs) + [[n, 5, 5, 0, 1]])
            told = max(told, len(pairs) - 1)
        self.assertGreater(told, 12)

    def test_a_number_above_12(self):
        self.assertEqual(numbered(3, 13), (13623482, 7865521))
        self.assertEqual(ask("begin 3", "number 13623482 7865521", "is 13623482 7865521")[1:], [[13], [1]])
        self.assertEqual(last("begin 3", "number 2642885282 1525870529"), [17])

    def test_1_0_and_0_0(self):
        for n in NS:
            self.assertEqual(ask(f"begin {n}", "number 1 0", "is 1 0", "number 0 0", "is 0 0", "is 0 1")[1:],
                             [[0], [1], [-33], [0], [0]])

    def test_all_small_ones(self):
        for n in (2, 3, 7, 8, 60):
            pairs = [(x, y) for x in range(36) for y in range(14)]
            for (x, y), row in zip(pairs, ask_all(f"begin {n}", [f"is {x} {y}" for x, y in pairs])):
                self.assertEqual(row, [int(gap(n, x, y) == 1)])
            for (x, y), row in zip(pairs, ask_all(f"begin {n}", [f"number {x} {y}" for x, y in pairs])):
                self.assertEqual(row[0] >= 0, gap(n, x, y) == 1)

    def test_refused(self):
        for x, y in ((0, 0), (0, 1), (2, 0), (1, 1), (7, 5), (2, 3), (3, 3), (4, 2), (MILLION, MILLION),
                     (GREATEST, 0), (0, GREATEST), (GREATEST, GREATEST)):
            self.refused(BEFORE, f"number {x} {y}", -33)
            self.assertEqual(last(*BEFORE, f"is {x} {y}"), [0])

    def test_another_ns_pair_is_none(self):
        self.refused(["begin 3"], "number 3 2", -33)
        self.assertEqual(last("begin 3", "is 3 2"), [0])


class AboveAndMany(Asking):
    def test_a_bound_of_nothing(self):
        for n in NS:
            self.assertEqual(ask(f"begin {n}", "above 0", "many 0")[1:], [[0, 1, 0], [1]])
            self.assertEqual(last(f"begin {n}", "above 1"), [1, *numbered(n, 1)])

    def test_next_to_each(self):
        for n in NS:
            for k in range(1, 8):
                x, y = numbered(n, k)
                if y >= GREATEST:
                    break
                rows = ask(f"begin {n}", "pair 5 5", f"above {y}", f"above {y - 1}", f"above {y + 1}",
                           f"many {y - 1}", f"many {y}", f"many {y + 1}", "told")
                low = 0 if y == 1 else k
                self.assertEqual(rows[2], [k, x, y])
                self.assertEqual(rows[3], [low, *numbered(n, low)])
                self.assertEqual(rows[4], [k + 1, *numbered(n, k + 1)])
                self.assertEqual(rows[5:], [[k], [k + 1], [k + 1], [n, 5, 5, 0, 1]])

    def test_the_greatest_bound(self):
        for n in NS:
            k = 0
            while numbered(n, k)[1] < GREATEST:
                k += 1
            self.assertEqual(ask(f"begin {n}", f"above {GREATEST}", f"many {GREATEST}")[1:], [[k, *numbered(n, k)], [k]])
        self.assertEqual(last("begin 3", f"above {GREATEST}"), [18, 9863382151, 5694626340])

    def test_small_bounds(self):
        for n in (2, 3, 8, 46):
            ys = [numbered(n, k)[1] for k in range(10)]
            rows = ask_all(f"begin {n}", [f"many {b}" for b in range(300)])
            self.assertEqual(rows, [[sum(y <= b for y in ys)] for b in range(300)])


class DividesAndCommon(Asking):
    def test_all(self):
        for n in (2, 3, 5, 46, 53, 60):
            ys = [numbered(n, k)[1] for k in range(13)]
            places = [(j, k) for j in range(13) for k in range(13)]
            divides = ask_all(f"begin {n}", [f"divides {j} {k}" for j, k in places])
            common = ask_all(f"begin {n}", [f"common {j} {k}" for j, k in places])
            for (j, k), row, other in zip(places, divides, common):
                self.assertEqual(row, [-22] if j == 0 else [int(ys[k] % ys[j] == 0)], (n, j, k))
                self.assertEqual(other, [0, gcd(ys[j], ys[k])], (n, j, k))

    def test_nothing(self):
        self.assertEqual(last("begin 2", "common 0 0"), [0, 0])
        self.assertEqual(last("begin 2", "common 0 3"), [0, 70])
        self.assertEqual(last("begin 2", "common 3 0"), [0, 70])
        self.assertEqual(last("begin 2", "divides 3 0"), [1])

    def test_some(self):
        self.assertEqual(last("begin 2", "divides 3 6"), [1])
        self.assertEqual(last("begin 2", "divides 6 3"), [0])
        self.assertEqual(last("begin 2", "divides 12 12"), [1])
        self.assertEqual(last("begin 2", "common 4 6"), [0, 12])

    def test_refused(self):
        for j, k in ((0, 0), (0, 1), (13, 1), (1, 13), (0, 13), (GREATEST, 1), (1, GREATEST), (13, 13)):
            self.refused(BEFORE, f"divides {j} {k}", -22)
        for j, k in ((13, 0), (0, 13), (13, 13), (GREATEST, 1), (1, GREATEST)):
            self.refused(BEFORE, f"common {j} {k}", -22)


class TogetherAndRule(Asking):
    def test_together(self):
        for n in (2, 3, 46, 53, 60):
            places = [(j, k) for j in range(13) for k in range(13)]
            for (j, k), row in zip(places, ask_all(f"begin {n}", [f"together {j} {k}" for j, k in places])):
                self.assertEqual(row, [0, *numbered(n, j + k)], (n, j, k))

    def test_together_ends(self):
        self.assertEqual(last("begin 2", "together 0 0"), [0, 1, 0])
        self.assertEqual(last("begin 2", "together 1 1"), [0, 17, 12])
        self.assertEqual(last("begin 2", "together 12 12"), [0, *numbered(2, 24)])

    def test_rule(self):
        for n in NS:
            rows = ask(f"begin {n}", "pair 5 5", *[f"rule {k}" for k in range(2, 13)], "told")
            self.assertEqual(rows[2:], [[0, *numbered(n, k)] for k in range(2, 13)] + [[n, 5, 5, 0, 1]])

    def test_refused(self):
        for j, k in ((13, 0), (0, 13), (13, 13), (GREATEST, 1), (1, GREATEST)):
            self.refused(BEFORE, f"together {j} {k}", -22)
        for k in (0, 1, 13, GREATEST):
            self.refused(BEFORE, f"rule {k}", -22)


class RootBy(Asking):
    def test_each(self):
        for n in NS:
            places = [(k, b) for k in (1, 2, 3, 7, 12) for b in (0, 1, 2, 3, 10, 100, 999, 54321, MILLION - 1, MILLION)]
            for (k, b), row in zip(places, ask(f"begin {n}", *[f"rootby {k} {b}" for k, b in places])[1:]):
                x, y = numbered(n, k)
                self.assertEqual(row, [0, b * x // y, isqrt(n * b * b)], (n, k, b))

    def test_some(self):
        self.assertEqual(last("begin 2", "rootby 1 10"), [0, 15, 14])
        self.assertEqual(last("begin 2", "rootby 2 10"), [0, 14, 14])
        self.assertEqual(last("begin 2", f"rootby 12 {MILLION}"), [0, 1414213, 1414213])
        self.assertEqual(last("begin 2", "rootby 1 0"), [0, 0, 0])

    def test_refused(self):
        for k, b in ((0, 1), (13, 1), (GREATEST, 1), (1, MILLION + 1), (12, GREATEST), (0, MILLION + 1), (0, 0)):
            self.refused(BEFORE, f"rootby {k} {b}", -22)


class LeftOfAndRound(Asking):
    def test_leftof(self):
        for n in (2, 46, 53, 60):
            for m in (1, 2, 3, 7, 97, 100, 999, 1000):
                rows = ask(f"begin {n}", *[f"leftof {m} {k}" for k in range(13)])[1:]
                self.assertEqual(rows, [[0, numbered(n, k)[0] % m, numbered(n, k)[1] % m] for k in range(13)])

    def test_divided_by_1(self):
        self.assertEqual(ask("begin 2", "leftof 1 0", "leftof 1 12", "round 1")[1:], [[0, 0, 0], [0, 0, 0], [1]])

    def test_of_number_0(self):
        self.assertEqual(ask("begin 2", "leftof 2 0", "leftof 1000 0")[1:], [[0, 1, 0]] * 2)

    def test_round(self):
        for n in NS:
            p, q = numbered(n, 1)
            rows = ask(f"begin {n}", *[f"round {m}" for m in range(1, 101)])[1:]
            for m, row in zip(range(1, 101), rows):
                # The numbers themselves are gone through, not what is left of them.
                x, y, turns = p, q, 1
                while (x % m, y % m) != (1 % m, 0):
                    x, y, turns = p * x + n * q * y, q * x + p * y, turns + 1
                self.assertEqual(row, [turns], (n, m))

    def test_round_by_the_numbers_left(self):
        for n in (2, 3, 46):
            for m in (2, 3, 4, 5, 6, 8, 12):
                turns = last(f"begin {n}", f"round {m}")[0]
                lefts = ask(f"begin {n}", *[f"leftof {m} {k}" for k in range(13)])[1:]
                again = [k for k in range(1, 13) if lefts[k] == lefts[0]]
                self.assertEqual(again, list(range(turns, 13, turns)))

    def test_some(self):
        self.assertEqual(last("begin 2", "leftof 10 2"), [0, 7, 2])
        self.assertEqual(last("begin 2", "round 2"), [1])
        self.assertEqual(last("begin 2", "round 3"), [4])
        self.assertEqual(last("begin 2", "round 7"), [3])
        self.assertEqual(last("begin 2", "round 100"), [30])

    def test_refused(self):
        for m, k in ((0, 1), (1001, 1), (GREATEST, 1), (1, 13), (1000, GREATEST), (0, 13)):
            self.refused(BEFORE, f"leftof {m} {k}", -22)
        for m in (0, 101, GREATEST):
            self.refused(BEFORE, f"round {m}", -22)


if __name__ == "__main__":
    unittest.main()

"""all, kin, families, sets, kept, itsnumber, itsfirst, here, told."""

import unittest
from math import prod

from tests.lines import GREATEST, MILLION, NS, Asking, ask, gap, keeping, last


def sets_by_search(n, pairs, wanted):
    """All sets whose differences, multiplied, are wanted, tried one by one."""
    found = []
    for mask in range(2 ** len(pairs)):
        chosen = [pairs[i] for i in range(len(pairs)) if mask // 2 ** i % 2 == 1]
        if prod(gap(n, x, y) for x, y in chosen) == wanted:
            found.append(mask)
    return found


class All(Asking):
    def test_none_kept(self):
        self.assertEqual(last("begin 2", "up", "all"), [0, 1, 0, 1])

    def test_one(self):
        self.assertEqual(last("begin 2", *keeping((1, 3)), "all"), [0, 1, 3, -17])

    def test_some(self):
        self.assertEqual(last("begin 3", *keeping((2, 1), (5, 4)), "all"), [0, 22, 13, -23])
        self.assertEqual(last("begin 3", *keeping((7, 2), (5, 4), (0, 1)), "all"), [0, 114, 59, 2553])

    def test_one_kept_twice(self):
        self.assertEqual(last("begin 2", *keeping((3, 1)), "keep", "all"), [0, 11, 6, 49])

    def test_great_numbers(self):
        pairs = [(MILLION - k, 999999 - 3 * k) for k in range(8)]
        x, y = 1, 0
        for u, v in pairs:
            x, y = x * u + 60 * y * v, x * v + y * u
        product = prod(gap(60, u, v) for u, v in pairs)
        self.assertEqual(last("begin 60", *keeping(*pairs), "all"), [0, x, y, product])
        self.assertEqual(gap(60, x, y), product)

    def test_not_the_pair_at_hand(self):
        self.assertEqual(last("begin 2", *keeping((3, 1)), "pair 100 1", "all"), [0, 3, 1, 7])


class Kin(Asking):
    def test_oneself(self):
        for n in NS:
            self.assertEqual(last(f"begin {n}", *keeping((5, 3)), "kin 0 0"), [1])

    def test_one_kept_twice(self):
        self.assertEqual(last("begin 2", *keeping((5, 3), (5, 3)), "kin 0 1"), [1])

    def test_by_steps(self):
        before = ["begin 2", "pair 3 1", "keep", "up", "keep", "up", "keep", "up", "keep"]
        for i in range(4):
            for j in range(4):
                self.assertEqual(last(*before, f"kin {i} {j}"), [1])

    def test_5_3_comes_down_to_3_1(self):
        self.assertEqual(last("begin 2", *keeping((5, 3), (3, 1)), "kin 0 1"), [1])

    def test_another_difference(self):
        self.assertEqual(last("begin 2", *keeping((3, 2), (7, 5)), "kin 0 1"), [0])
        self.assertEqual(last("begin 2", *keeping((3, 1), (1, 2)), "kin 0 1"), [0])

    def test_the_same_difference_and_another_first_one(self):
        # With n of 10 these three have the difference 9, and 13, 4 comes down to 7, 2.
        self.assertEqual(last("begin 10", *keeping((3, 0), (7, 2)), "kin 0 1"), [0])
        self.assertEqual(last("begin 10", *keeping((3, 0), (13, 4)), "kin 0 1"), [0])
        self.assertEqual(last("begin 10", *keeping((7, 2), (13, 4)), "kin 0 1"), [1])
        self.assertEqual(last("begin 2", *keeping((7, 0), (9, 4)), "kin 0 1"), [0])

    def test_refused(self):
        self.assertEqual(last("begin 2", "kin 0 0"), [-2])
        for i, j in ((0, 1), (1, 0), (1, 1), (0, GREATEST), (GREATEST, 0), (GREATEST, GREATEST)):
            self.refused(["begin 2", *keeping((3, 1))], f"kin {i} {j}", -2)


class Families(Asking):
    def test_none_kept(self):
        self.assertEqual(last("begin 2", "families"), [0])

    def test_one(self):
        self.assertEqual(last("begin 2", "keep", "families"), [1, 0, 1])

    def test_one_kept_twice(self):
        self.assertEqual(last("begin 2", "keep", "keep", "families"), [1, 0, 2])

    def test_several(self):
        # Differences 7, 1, 7, -7, 1, 7.
        pairs = [(3, 1), (1, 0), (13, 9), (1, 2), (17, 12), (5, 3)]
        self.assertEqual(last("begin 2", *keeping(*pairs), "families"), [3, 0, 3, 1, 2, 3, 1])

    def test_two_families_of_one_difference(self):
        self.assertEqual(last("begin 2", *keeping((9, 4), (7, 0), (21, 14)), "families"), [2, 0, 1, 1, 2])

    def test_a_difference_that_none_but_itself_has(self):
        self.assertEqual(last("begin 2", *keeping((1, 0), (5, 1), (3, 2)), "families"), [2, 0, 2, 1, 1])

    def test_numbered_anew_behind_a_drop(self):
        before = ["begin 2", *keeping((5, 1), (1, 0), (5, 1), (3, 2))]
        self.assertEqual(last(*before, "families"), [2, 0, 2, 1, 2])
        self.assertEqual(last(*before, "drop 0", "families"), [2, 0, 2, 1, 1])

    def test_eight_alone(self):
        pairs = [(k, 1) for k in range(3, 11)]
        expected = [8]
        for i in range(8):
            expected += [i, 1]
        self.assertEqual(last("begin 2", *keeping(*pairs), "families"), expected)


class Sets(Asking):
    def test_a_set_of_none(self):
        self.assertEqual(last("begin 2", "sets 0 1"), [1, 0])
        self.assertEqual(last("begin 2", "sets 1 1"), [0])
        self.assertEqual(last("begin 2", "sets 0 2"), [0])

    def test_nothing_is_never_a_product(self):
        before = ["begin 2", *keeping((3, 1), (1, 1))]
        self.assertEqual(ask(*before, "sets 0 0", "sets 1 0")[-2:], [[0], [0]])

    def test_either_sign(self):
        before = ["begin 2", *keeping((3, 1), (1, 2), (1, 1))]
        self.assertEqual(last(*before, "sets 0 7"), [2, 1, 6])
        self.assertEqual(last(*before, "sets 1 7"), [2, 2, 5])
        self.assertEqual(last(*before, "sets 0 49"), [1, 7])
        self.assertEqual(last(*before, "sets 1 49"), [1, 3])

    def test_one_kept_twice_makes_two_sets(self):
        self.assertEqual(last("begin 2", *keeping((3, 1)), "keep", "sets 0 7"), [2, 1, 2])

    def test_all_256(self):
        before = ["begin 2", *["keep"] * 8]
        self.assertEqual(last(*before, "sets 0 1"), [256, *range(256)])

    def test_by_search(self):
        pairs = [(2, 0), (3, 1), (4, 1), (1, 1), (1, 2), (5, 3), (2, 1), (0, 1)]
        for n in (2, 3, 5, 60):
            for k in (1, 2, 4, 7, 8, 14, 28, 49, 56, 98, 196, 392, 10 ** 6):
                for s, sign in ((0, 1), (1, -1)):
                    found = sets_by_search(n, pairs, sign * k)
                    self.assertEqual(last(f"begin {n}", *keeping(*pairs), f"sets {s} {k}"), [len(found)] + found)

    def test_a_million(self):
        before = ["begin 2", *keeping((1000, 0), (1, 1))]
        self.assertEqual(last(*before, f"sets 0 {MILLION}"), [1, 1])
        self.assertEqual(last(*before, f"sets 1 {MILLION}"), [1, 3])

    def test_refused(self):
        for s, k in ((2, 1), (GREATEST, 0), (0, MILLION + 1), (1, MILLION + 1), (0, GREATEST), (2, GREATEST)):
            self.refused(["begin 2", *keeping((3, 1))], f"sets {s} {k}", -22)


class Kept(Asking):
    def test_none_and_some(self):
        self.assertEqual(last("begin 2", "up", "kept"), [0])
        self.assertEqual(last("begin 2", *keeping((1, 3), (3, 1), (1, 3)), "kept"), [3, 1, 3, 3, 1, 1, 3])


class ItsNumber(Asking):
    def test_from_1_0_on(self):
        self.assertEqual(last("begin 2", "itsnumber"), [0])
        for n in NS:
            k = 0
            rows = ask(f"begin {n}", *["up", "itsnumber"] * 11)
            for moved, number in zip(rows[1::2], rows[2::2]):
                if moved != [-28]:
                    k += 1
                self.assertEqual(number, [k])
            self.assertGreaterEqual(k, 1)

    def test_handed_over(self):
        self.assertEqual(last("begin 2", "pair 114243 80782", "itsnumber"), [7])
        self.assertEqual(last("begin 2", "pair 665857 470832", "itsnumber"), [8])

    def test_refused(self):
        for x, y in ((2, 0), (0, 1), (1, 1), (7, 5), (2, 1), (MILLION, MILLION)):
            self.refused(["begin 2", f"pair {x} {y}"], "itsnumber", -33)


class ItsFirst(Asking):
    def test_a_first_one(self):
        self.assertEqual(last("begin 2", "itsfirst"), [0, 1, 0])
        self.assertEqual(last("begin 2", "pair 0 1", "itsfirst"), [0, 0, 1])
        self.assertEqual(last("begin 2", "pair 3 1", "itsfirst"), [0, 3, 1])
        self.assertEqual(last("begin 7", "pair 3 1", "itsfirst"), [0, 3, 1])

    def test_some_steps(self):
        self.assertEqual(last("begin 2", "pair 5 3", "itsfirst"), [1, 3, 1])
        self.assertEqual(last("begin 2", "pair 3 1", "up", "up", "up", "itsfirst"), [3, 3, 1])
        self.assertEqual(last("begin 2", "pair 665857 470832", "itsfirst"), [8, 1, 0])
        self.assertEqual(last("begin 46", "pair 24335 3588", "itsfirst"), [1, 1, 0])

    def test_changes_nothing(self):
        rows = ask("begin 2", "pair 5 3", "told", "itsfirst", "told")
        self.assertEqual(rows[2], rows[4])


class HereTold(Asking):
    def test_here(self):
        self.assertEqual(last("begin 60", "here"), [0, 1, 0, 1])
        self.assertEqual(last("begin 60", "pair 7 1", "here"), [0, 7, 1, -11])

    def test_told(self):
        self.assertEqual(last("begin 60", "told"), [60, 1, 0, 0, 0])
        self.assertEqual(last("begin 7", "up", "keep", "keep", "pair 2 9", "told"), [7, 2, 9, 2, 2])


if __name__ == "__main__":
    unittest.main()

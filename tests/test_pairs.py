"""square, power, parted, one, nearest, closest, of, both, root."""

import unittest

from tests.lines import GREATEST, MILLION, NS, Asking, ask, gap, keeping, last


class SquareAndPower(Asking):
    def test_square(self):
        self.assertEqual(ask("begin 3", "pair 5 4", "square", "here")[-2:], [[0, 73, 40, 529], [0, 5, 4, -23]])
        self.assertEqual(last("begin 3", "square"), [0, 1, 0, 1])
        self.assertEqual(last("begin 3", "pair 0 1", "square"), [0, 3, 0, 9])

    def test_square_of_a_million(self):
        x, y = 61 * MILLION ** 2, 2 * MILLION ** 2
        self.assertEqual(last("begin 60", f"pair {MILLION} {MILLION}", "square"), [0, x, y, gap(60, x, y)])

    def test_power(self):
        before = ["begin 2", "pair 1 1"]
        expected = [(1, 0), (1, 1), (3, 2), (7, 5), (17, 12), (41, 29), (99, 70), (239, 169), (577, 408),
                    (1393, 985), (3363, 2378), (8119, 5741), (19601, 13860)]
        for k, (x, y) in enumerate(expected):
            self.assertEqual(last(*before, f"power {k}"), [0, x, y, (-1) ** k])

    def test_power_of_nothing_and_of_1_0(self):
        self.assertEqual(last("begin 2", f"pair {MILLION} 3", "power 0"), [0, 1, 0, 1])
        self.assertEqual(last("begin 2", "power 12"), [0, 1, 0, 1])

    def test_great_power(self):
        answer = last("begin 60", f"pair {MILLION} 999999", "power 12")
        x, y = 1, 0
        for turn in range(12):
            x, y = x * MILLION + 60 * y * 999999, x * 999999 + y * MILLION
        self.assertEqual(answer, [0, x, y, gap(60, MILLION, 999999) ** 12])

    def test_power_refused(self):
        for k in (13, 60, GREATEST):
            self.refused(["begin 2", "pair 3 1"], f"power {k}", -22)


class Parted(Asking):
    def test_parted(self):
        self.assertEqual(ask("begin 3", "pair 59 38", "parted 5 4", "here")[-2:],
                         [[0, 7, 2, 37], [0, 59, 38, -851]])
        self.assertEqual(last("begin 3", "pair 59 38", "parted 1 0"), [0, 59, 38, -851])
        self.assertEqual(last("begin 3", "pair 59 38", "parted 59 38"), [0, 1, 0, 1])
        self.assertEqual(last("begin 3", "pair 6 10", "parted 0 2"), [0, 5, 1, 22])

    def test_by_search(self):
        for n in (2, 3, 7, 60):
            for x in range(0, 13):
                for y in range(0, 13):
                    if x == y == 0:
                        continue
                    texts = [f"parted {u} {v}" for u in range(0, 4) for v in range(0, 4)]
                    rows = ask(f"begin {n}", f"pair {x} {y}", *texts)[2:]
                    for text, row in zip(texts, rows):
                        u, v = (int(word) for word in text.split()[1:])
                        found = [[0, a, b, gap(n, a, b)] for a in range(13) for b in range(13)
                                 if a * u + n * b * v == x and a * v + b * u == y]
                        self.assertEqual([row], found or [[-33]])

    def test_refused(self):
        before = ["begin 2", "pair 5 1"]
        for u, v in ((0, 0), (5, 0), (3, 2), (0, 1), (MILLION, MILLION)):
            self.refused(before, f"parted {u} {v}", -33)
        for u, v in ((MILLION + 1, 0), (0, MILLION + 1), (GREATEST, GREATEST), (1, GREATEST)):
            self.refused(before, f"parted {u} {v}", -22)

    def test_a_million(self):
        self.assertEqual(last("begin 2", f"pair {MILLION} 0", f"parted {MILLION} 0"), [0, 1, 0, 1])
        self.assertEqual(last("begin 2", f"pair 0 {MILLION}", f"parted 0 {MILLION}"), [0, 1, 0, 1])


class One(Asking):
    CASES = [
        (2, 3, 2, 3, 2),            # 1
        (2, 1, 0, 1, 0),
        (2, 7, 5, 99, 70),          # -1
        (2, 1393, 985, 3880899, 2744210),
        (2, 4, 3, 17, 12),          # -2
        (2, 2, 1, 3, 2),            # 2
        (2, 0, 1, 1, 0),
        (7, 3, 1, 8, 3),
        (11, 3, 1, 10, 3),
        (3, 4, 2, 2, 1),            # 4, both even
        (2, 2, 0, 1, 0),
        (5, 3, 1, 9, 4),            # 4, both odd
        (53, 51, 7, 66249, 9100),
        (12, 4, 1, 7, 2),           # 4, the first even alone
        (5, 1, 1, 9, 4),            # -4, both odd
        (29, 5, 1, 9801, 1820),
        (53, 7, 1, 66249, 9100),
        (8, 2, 1, 99, 35),          # -4, the first even
        (2, 2, 2, 99, 70),
    ]

    def test_each_way(self):
        for n, x, y, u, v in self.CASES:
            rows = ask(f"begin {n}", f"pair {x} {y}", "one", "here")
            self.assertEqual(rows[2:], [[0, u, v, 1], [0, x, y, gap(n, x, y)]])

    def test_all_small_ones(self):
        for n in NS:
            for x in range(0, 40):
                for y in range(0, 40):
                    if x == y == 0 or abs(gap(n, x, y)) > 6:
                        continue
                    answer = last(f"begin {n}", f"pair {x} {y}", "one")
                    if abs(gap(n, x, y)) in (1, 2, 4):
                        self.assertEqual((answer[0], answer[3], gap(n, *answer[1:3])), (0, 1, 1))
                    else:
                        self.assertEqual(answer, [-33])

    def test_refused(self):
        for n, x, y in ((2, 3, 1), (3, 3, 2), (6, 3, 1), (2, 0, 2), (60, MILLION, MILLION)):
            self.refused([f"begin {n}", f"pair {x} {y}"], "one", -33)


class NearestAndClosest(Asking):
    def test_nearest(self):
        self.assertEqual(last("begin 2", "nearest 1"), [0, 1, 1, -1])
        self.assertEqual(last("begin 3", "nearest 1"), [0, 2, 1, 1])
        self.assertEqual(last("begin 60", "nearest 1000"), [0, 7746, 1000, 516])
        self.assertEqual(last("begin 48", "nearest 1"), [0, 7, 1, 1])
        self.assertEqual(last("begin 50", "nearest 1"), [0, 7, 1, -1])

    def test_nearest_by_search(self):
        for n in NS:
            texts = [f"nearest {y}" for y in list(range(1, 40)) + [999, 1000]]
            for text, row in zip(texts, ask(f"begin {n}", *texts)[1:]):
                y = int(text.split()[1])
                x = min(range(0, 8 * y + 2), key=lambda x: abs(gap(n, x, y)))
                self.assertEqual(row, [0, x, y, gap(n, x, y)])

    def test_nearest_refused(self):
        for y in (0, 1001, GREATEST):
            self.refused(["begin 2", "pair 3 1"], f"nearest {y}", -22)

    def test_closest(self):
        self.assertEqual(last("begin 2", "closest 1"), [0, 1, 1, -1])
        # 1 and -1 are as near: the first is answered.
        self.assertEqual(last("begin 2", "closest 60"), [0, 1, 1, -1])
        self.assertEqual(last("begin 7", "closest 2"), [0, 3, 1, 2])
        self.assertEqual(last("begin 7", "closest 3"), [0, 8, 3, 1])
        self.assertEqual(last("begin 7", "closest 60"), [0, 8, 3, 1])

    def test_closest_by_search(self):
        for n in NS:
            for b in (1, 2, 3, 7, 20, 59, 60):
                pairs = [(x, y) for y in range(1, b + 1) for x in range(0, 8 * y + 2)]
                x, y = min(pairs, key=lambda pair: abs(gap(n, *pair)))
                self.assertEqual(last(f"begin {n}", f"closest {b}"), [0, x, y, gap(n, x, y)])

    def test_closest_refused(self):
        for b in (0, 61, GREATEST):
            self.refused(["begin 2", "pair 3 1"], f"closest {b}", -22)


class OfAndBoth(Asking):
    def test_of(self):
        self.assertEqual(last("begin 2", "of 3 2"), [0, 1])
        self.assertEqual(last("begin 2", "of 0 0"), [0, 0])
        self.assertEqual(last("begin 60", f"of 0 {MILLION}"), [0, -60 * MILLION ** 2])
        self.assertEqual(last("begin 60", f"of {MILLION} 0"), [0, MILLION ** 2])

    def test_of_refused(self):
        for u, v in ((MILLION + 1, 0), (0, MILLION + 1), (GREATEST, GREATEST)):
            self.refused(["begin 2", "pair 3 1"], f"of {u} {v}", -22)

    def test_both(self):
        self.assertEqual(last("begin 3", "pair 9 9", "both 7 2 5 4"), [0, 59, 38, -851])
        self.assertEqual(last("begin 3", "both 0 0 5 4"), [0, 0, 0, 0])
        self.assertEqual(last("begin 3", "both 5 4 0 0"), [0, 0, 0, 0])
        self.assertEqual(last("begin 3", "both 5 4 1 0"), [0, 5, 4, -23])
        million = MILLION
        self.assertEqual(last("begin 60", f"both {million} {million} {million} {million}"),
                         [0, 61 * million ** 2, 2 * million ** 2, (59 * million ** 2) ** 2])

    def test_both_refused(self):
        for place in range(4):
            for number in (MILLION + 1, GREATEST):
                numbers = ["1"] * 4
                numbers[place] = str(number)
                self.refused(["begin 2", "pair 3 1"], "both " + " ".join(numbers), -22)


class Root(Asking):
    def test_each(self):
        for m in range(0, 10001):
            if m % 119 == 0:
                block = range(m, min(m + 119, 10001))
                rows = ask("begin 2", *[f"root {k}" for k in block])[1:]
                for k, (whole, rest) in zip(block, rows):
                    self.assertEqual(whole * whole + rest, k)
                    self.assertTrue(0 <= rest <= 2 * whole)

    def test_ends(self):
        self.assertEqual(last("begin 2", "root 0"), [0, 0])
        self.assertEqual(last("begin 2", "root 9999"), [99, 198])
        self.assertEqual(last("begin 2", "root 10000"), [100, 0])

    def test_refused(self):
        for m in (10001, GREATEST):
            self.refused(["begin 2", *keeping((3, 1))], f"root {m}", -22)


if __name__ == "__main__":
    unittest.main()

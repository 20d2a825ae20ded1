"""steps, way, diffs, leastof, long, short, longest, greatest, minus."""

import unittest

from tests.lines import GREATEST, NS, WRONG_NS, Asking, ask, flat, last, least_by_search


def triples_by_the_words(n, count):
    """The triples from the first one on, each made just as the document tells it."""
    a = min(range(1, 2 * n), key=lambda a: (abs(a * a - n), a))
    triples = [(a, 1, a * a - n)]
    while len(triples) < count:
        a, b, k = triples[-1]
        fitting = [m for m in range(1, 2 * n + 1) if (a + m * b) % abs(k) == 0]
        m = min(fitting, key=lambda m: (abs(m * m - n), m))
        triples.append(((a * m + n * b) // abs(k), (a + b * m) // abs(k), (m * m - n) // k))
    return triples


def way_by_the_words(n):
    triples = triples_by_the_words(n, 61)
    return triples[:[k for a, b, k in triples].index(1) + 1]


class Steps(Asking):
    def test_first(self):
        self.assertEqual(last("begin 2", "steps 0"), [0, 1, 1, -1])
        self.assertEqual(last("begin 3", "steps 0"), [0, 2, 1, 1])
        self.assertEqual(last("begin 60", "steps 0"), [0, 8, 1, 4])

    def test_not_by_the_pair_at_hand(self):
        self.assertEqual(last("begin 58", "pair 5 5", "steps 1"), [0, 15, 2, -7])

    def test_sixty_steps_of_each(self):
        for n in NS:
            rows = ask(f"begin {n}", *[f"steps {j}" for j in range(61)])[1:]
            self.assertEqual(rows, [[0, *triple] for triple in triples_by_the_words(n, 61)])

    def test_behind_a_difference_of_1(self):
        self.assertEqual(last("begin 2", "steps 1"), [0, 3, 2, 1])
        self.assertEqual(last("begin 2", "steps 2"), [0, 7, 5, -1])
        self.assertEqual(last("begin 3", "steps 1"), [0, 7, 4, 1])

    def test_two_that_are_as_near(self):
        # 3 and 7, 5 and 9, 4 and 10 would do: the lesser is taken.
        self.assertEqual(last("begin 29", "steps 1"), [0, 11, 2, 5])
        self.assertEqual(last("begin 53", "steps 1"), [0, 22, 3, 7])
        self.assertEqual(last("begin 58", "steps 1"), [0, 15, 2, -7])

    def test_refused(self):
        for j in (61, 100, GREATEST):
            self.refused(["begin 2", "pair 3 1"], f"steps {j}", -22)


class WayAndDiffs(Asking):
    def test_58_53_46(self):
        self.assertEqual(last("begin 58", "way"), [8, *flat([(8, 1), (15, 2), (38, 5), (99, 13), (1546, 203),
                                                             (2993, 393), (7532, 989), (19603, 2574)])])
        self.assertEqual(last("begin 58", "diffs"), [8, 6, -7, -6, -1, -6, 7, 6, 1])
        self.assertEqual(last("begin 53", "way")[0], 8)
        self.assertEqual(last("begin 53", "way")[-2:], [66249, 9100])
        self.assertEqual(last("begin 53", "diffs"), [8, -4, 7, 4, -1, 4, -7, -4, 1])
        self.assertEqual(last("begin 46", "way")[-2:], [24335, 3588])
        self.assertEqual(last("begin 46", "diffs"), [8, 3, 6, -5, 2, -5, 6, 3, 1])

    def test_one_that_ends_at_once(self):
        for n in (3, 8, 15, 24, 35, 48):
            root = round((n + 1) ** 0.5)
            self.assertEqual(ask(f"begin {n}", "way", "diffs")[1:], [[1, root, 1], [1, 1]])

    def test_n_of_2(self):
        self.assertEqual(ask("begin 2", "way", "diffs")[1:], [[2, 1, 1, 3, 2], [2, -1, 1]])

    def test_each(self):
        for n in NS:
            triples = way_by_the_words(n)
            rows = ask(f"begin {n}", "pair 5 7", "way", "diffs", "told")
            self.assertEqual(rows[2], [len(triples)] + flat([(a, b) for a, b, k in triples]))
            self.assertEqual(rows[3], [len(triples)] + [k for a, b, k in triples])
            self.assertEqual(rows[4], [n, 5, 7, 0, 1])


class LeastOfAndLong(Asking):
    def test_leastof_each(self):
        for n in NS:
            x, y = least_by_search(n)
            self.assertEqual(ask("begin 2", f"leastof {n}", "told")[1:], [[0, x, y], [2, 1, 0, 0, 0]])

    def test_long(self):
        expected = {2: 1, 3: 0, 8: 0, 46: 7, 48: 0, 53: 7, 58: 7}
        for n, steps in expected.items():
            self.assertEqual(last("begin 60", f"long {n}"), [steps])

    def test_long_is_one_less_than_the_way(self):
        for n in NS:
            way, steps = ask(f"begin {n}", "way", f"long {n}")[1:]
            self.assertEqual(steps, [way[0] - 1])

    def test_refused(self):
        for n in WRONG_NS:
            self.refused(["begin 2", "pair 3 1"], f"leastof {n}", -22)
            self.refused(["begin 2", "pair 3 1"], f"long {n}", -22)


class Short(Asking):
    def test_each_difference(self):
        self.assertEqual(last("begin 3", "short"), [0, 2, 1, 1])
        self.assertEqual(last("begin 2", "short"), [0, 1, 1, -1])
        self.assertEqual(last("begin 7", "short"), [0, 3, 1, 2])
        self.assertEqual(last("begin 11", "short"), [0, 3, 1, -2])
        self.assertEqual(last("begin 60", "short"), [0, 8, 1, 4])
        self.assertEqual(last("begin 53", "short"), [0, 7, 1, -4])

    def test_46_and_58_go_some_steps(self):
        self.assertEqual(last("begin 46", "short"), [0, 156, 23, 2])
        self.assertEqual(last("begin 58", "short"), [0, 99, 13, -1])

    def test_next_to_a_square(self):
        self.assertEqual(last("begin 48", "short"), [0, 7, 1, 1])
        self.assertEqual(last("begin 50", "short"), [0, 7, 1, -1])

    def test_two_that_are_as_near(self):
        self.assertEqual(last("begin 29", "short"), [0, 5, 1, -4])
        self.assertEqual(last("begin 58", "pair 8 1", "short"), [0, 99, 13, -1])

    def test_each(self):
        for n in NS:
            triple = [t for t in way_by_the_words(n) if abs(t[2]) in (1, 2, 4)][0]
            rows = ask(f"begin {n}", "pair 5 7", "short", "told")
            self.assertEqual(rows[2:], [[0, *triple], [n, 5, 7, 0, 1]])


class LongestAndGreatest(Asking):
    def test_longest(self):
        # Up to 2 and up to 4 a way of one step is the longest.
        self.assertEqual(last("begin 60", "longest 2"), [2, 1])
        self.assertEqual(last("begin 60", "longest 4"), [2, 1])
        # 29, 46, 53 and 58 have 7 steps each: the least is told.
        for b in (29, 46, 53, 58, 60):
            self.assertEqual(last("begin 2", f"longest {b}"), [29, 7])

    def test_greatest(self):
        self.assertEqual(last("begin 60", "greatest 2"), [2, 3])
        self.assertEqual(last("begin 60", "greatest 3"), [2, 3])
        self.assertEqual(last("begin 60", "greatest 4"), [2, 3])
        self.assertEqual(last("begin 2", "greatest 46"), [46, 24335])
        self.assertEqual(last("begin 2", "greatest 52"), [46, 24335])
        self.assertEqual(last("begin 2", "greatest 53"), [53, 66249])
        self.assertEqual(last("begin 2", "greatest 60"), [53, 66249])

    def test_each(self):
        for b in range(2, 61):
            ns = [n for n in NS if n <= b]
            steps = {n: len(way_by_the_words(n)) - 1 for n in ns}
            most = min(n for n in ns if steps[n] == max(steps.values()))
            xs = {n: least_by_search(n)[0] for n in ns}
            greatest = min(n for n in ns if xs[n] == max(xs.values()))
            self.assertEqual(ask("begin 7", f"longest {b}", f"greatest {b}", "told")[1:],
                             [[most, steps[most]], [greatest, xs[greatest]], [7, 1, 0, 0, 0]])

    def test_refused(self):
        for b in (0, 1, 61, 100, GREATEST):
            self.refused(["begin 2", "pair 3 1"], f"longest {b}", -22)
            self.refused(["begin 2", "pair 3 1"], f"greatest {b}", -22)


class Minus(Asking):
    def test_some(self):
        for n, x, y in ((2, 1, 1), (5, 2, 1), (10, 3, 1), (13, 18, 5), (29, 70, 13), (50, 7, 1), (53, 182, 25),
                        (58, 99, 13)):
            self.assertEqual(ask("begin 3", f"minus {n}", "told")[1:], [[0, x, y], [3, 1, 0, 0, 0]])

    def test_each(self):
        for n in NS:
            pairs = [[0, a, b] for a, b, k in way_by_the_words(n) if k == -1]
            self.assertEqual(last("begin 2", f"minus {n}"), (pairs + [[-33]])[0])

    def test_refused_where_none_has_it(self):
        for n in (3, 7, 8, 46, 48, 60):
            self.refused(["begin 2", "pair 3 1"], f"minus {n}", -33)

    def test_refused_for_n_first(self):
        for n in WRONG_NS:
            self.refused(["begin 2", "pair 3 1"], f"minus {n}", -22)


if __name__ == "__main__":
    unittest.main()

"""steps, way, diffs, leastof, long."""

import unittest

from tests.lines import GREATEST, NS, Asking, ask, last, least_by_search


def triples_by_the_words(n, count):
    """The triples from the first one on, each made just as the document tells it."""
    a = min(range(1, 2 * n), key=lambda a: (abs(a * a - n), a))
    triples = [(a, 1, a * a - n)]
    while len(triples) < count:
        a, b, k = triples[-1]
        fitting = [m for m in range(1, 2 * n + 1) if (a + m * b) % abs(k) == 0]
        m = min(fitting, key=lambda m: (abs(m * m - n), m))
        triples.append(((a * m + n * b) // abs(k), (a + b * m) // abs(k), (m * m - n) // k))
    return triples


def flat(pairs):
    return [number for pair in pairs for number in pair]


class Steps(Asking):
    def test_first(self):
        self.assertEqual(last("begin 2", "steps 0"), [0, 1, 1, -1])
        self.assertEqual(last("begin 3", "steps 0"), [0, 2, 1, 1])
        self.assertEqual(last("begin 60", "steps 0"), [0, 8, 1, 4])

    def test_not_by_the_pair_at_hand(self):
        self.assertEqual(last("begin 58", "pair 5 5", "steps 1"), [0, 15, 2, -7])

    def test_sixty_steps_of_each(self):
        for n in NS:
            rows = ask(f"begin {n}", *[f"steps {j}" for j in range(61)])[1:]
            self.assertEqual(rows, [[0, *triple] for triple in triples_by_the_words(n, 61)])

    def test_behind_a_difference_of_1(self):
        self.assertEqual(last("begin 2", "steps 1"), [0, 3, 2, 1])
        self.assertEqual(last("begin 2", "steps 2"), [0, 7, 5, -1])
        self.assertEqual(last("begin 3", "steps 1"), [0, 7, 4, 1])

    def test_two_that_are_as_near(self):
        # 3 and 7, 5 and 9, 4 and 10 would do: the lesser is taken.
        self.assertEqual(last("begin 29", "steps 1"), [0, 11, 2, 5])
        self.assertEqual(last("begin 53", "steps 1"), [0, 22, 3, 7])
        self.assertEqual(last("begin 58", "steps 1"), [0, 15, 2, -7])

    def test_refused(self):
        for j in (61, 100, GREATEST):
            self.refused(["begin 2", "pair 3 1"], f"steps {j}", -22)


class WayAndDiffs(Asking):
    def test_58_53_46(self):
        self.assertEqual(last("begin 58", "way"), [8, *flat([(8, 1), (15, 2), (38, 5), (99, 13), (1546, 203),
                                                             (2993, 393), (7532, 989), (19603, 2574)])])
        self.assertEqual(last("begin 58", "diffs"), [8, 6, -7, -6, -1, -6, 7, 6, 1])
        self.assertEqual(last("begin 53", "way")[0], 8)
        self.assertEqual(last("begin 53", "way")[-2:], [66249, 9100])
        self.assertEqual(last("begin 53", "diffs"), [8, -4, 7, 4, -1, 4, -7, -4, 1])
        self.assertEqual(last("begin 46", "way")[-2:], [24335, 3588])
        self.assertEqual(last("begin 46", "diffs"), [8, 3, 6, -5, 2, -5, 6, 3, 1])

    def test_one_that_ends_at_once(self):
        for n in (3, 8, 15, 24, 35, 48):
            root = round((n + 1) ** 0.5)
            self.assertEqual(ask(f"begin {n}", "way", "diffs")[1:], [[1, root, 1], [1, 1]])

    def test_n_of_2(self):
        self.assertEqual(ask("begin 2", "way", "diffs")[1:], [[2, 1, 1, 3, 2], [2, -1, 1]])

    def test_each(self):
        for n in NS:
            triples = triples_by_the_words(n, 61)
            triples = triples[:[k for a, b, k in triples].index(1) + 1]
            rows = ask(f"begin {n}", "pair 5 7", "way", "diffs", "told")
            self.assertEqual(rows[2], [len(triples)] + flat([(a, b) for a, b, k in triples]))
            self.assertEqual(rows[3], [len(triples)] + [k for a, b, k in triples])
            self.assertEqual(rows[4], [n, 5, 7, 0, 1])


class LeastOfAndLong(Asking):
    def test_leastof_each(self):
        for n in NS:
            x, y = least_by_search(n)
            self.assertEqual(ask("begin 2", f"leastof {n}", "told")[1:], [[0, x, y], [2, 1, 0, 0, 0]])

    def test_long(self):
        expected = {2: 1, 3: 0, 8: 0, 46: 7, 48: 0, 53: 7, 58: 7}
        for n, steps in expected.items():
            self.assertEqual(last("begin 60", f"long {n}"), [steps])

    def test_long_is_one_less_than_the_way(self):
        for n in NS:
            way, steps = ask(f"begin {n}", "way", f"long {n}")[1:]
            self.assertEqual(steps, [way[0] - 1])

    def test_refused(self):
        for n in (0, 1, 4, 9, 16, 25, 36, 49, 61, 62, GREATEST):
            self.refused(["begin 2", "pair 3 1"], f"leastof {n}", -22)
            self.refused(["begin 2", "pair 3 1"], f"long {n}", -22)


if __name__ == "__main__":
    unittest.main()

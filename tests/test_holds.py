"""What the document says always holds, over many inputs."""

import unittest
from itertools import combinations, permutations
from math import prod
from random import Random

from tests.lines import NS, ask, gap, keeping, last, least_by_search


def some_pairs(seed, count, most):
    """Pairs for a seed, none of them 0, 0; the same ones each time."""
    source = Random(seed)
    pairs = []
    while len(pairs) < count:
        pair = (source.randint(0, most), source.randint(0, most))
        if pair != (0, 0):
            pairs.append(pair)
    return pairs


class PutTogether(unittest.TestCase):
    def test_then_parted_it_is_as_before(self):
        for n in NS:
            pairs = some_pairs(n, 40, 100)
            for (x, y), (u, v) in zip(pairs[:20], pairs[20:]):
                rows = ask(f"begin {n}", *keeping((u, v)), f"pair {x} {y}", "with 0", f"parted {u} {v}", "from 0")
                before = [0, x, y, gap(n, x, y)]
                self.assertEqual(rows[3], before)
                self.assertEqual(rows[5:], [before, before])

    def test_parted_then_put_together_it_is_as_before(self):
        found = 0
        for n in NS:
            for x, y in some_pairs(n, 30, 60):
                for u, v in ((1, 1), (2, 1), (1, 0), (3, 0), (0, 1)):
                    rows = ask(f"begin {n}", *keeping((u, v)), f"pair {x} {y}", "from 0", "with 0")
                    if rows[4] != [-33]:
                        found += 1
                        self.assertEqual(rows[5], [0, x, y, gap(n, x, y)])
        self.assertGreater(found, 1000)

    def test_differences_are_multiplied_either_way(self):
        for n in NS:
            pairs = some_pairs(n + 100, 20, 120)
            for (x, y), (u, v) in zip(pairs[:10], pairs[10:]):
                product = gap(n, x, y) * gap(n, u, v)
                before = [f"begin {n}", *keeping((u, v)), f"pair {x} {y}"]
                for text in ("with 0", "against 0", f"both {x} {y} {u} {v}"):
                    row = last(*before, text)
                    self.assertEqual((row[0], row[3], gap(n, row[1], row[2])), (0, product, product))

    def test_the_other_way_round_order_does_not_matter(self):
        for n in NS:
            pairs = some_pairs(n + 200, 20, 120)
            for one, other in zip(pairs[:10], pairs[10:]):
                self.assertEqual(last(f"begin {n}", *keeping(one, other), "against 0"),
                                 last(f"begin {n}", *keeping(other, one), "against 0"))
                self.assertEqual(last(f"begin {n}", *keeping(one, other), "with 0"),
                                 last(f"begin {n}", *keeping(other, one), "with 0"))

    def test_no_difference_is_0(self):
        for n in NS:
            texts = [f"of {x} {y}" for x in range(11) for y in range(10)]
            for text, row in zip(texts, ask(f"begin {n}", *texts)[1:]):
                self.assertEqual(row == [0, 0], text == "of 0 0")


class AllKept(unittest.TestCase):
    def test_has_the_product_of_the_differences(self):
        for n in NS:
            for size in range(9):
                pairs = some_pairs(100 * n + size, size, 1000000)
                row = last(f"begin {n}", *keeping(*pairs), "all")
                product = prod(gap(n, x, y) for x, y in pairs)
                self.assertEqual((row[0], gap(n, row[1], row[2]), row[3]), (0, product, product))
                self.assertNotEqual(product, 0)

    def test_in_whatever_order(self):
        for n in (2, 7, 53, 60):
            pairs = some_pairs(n, 4, 1000)
            answers = {tuple(last(f"begin {n}", *keeping(*order), "all")) for order in permutations(pairs)}
            self.assertEqual(len(answers), 1)


class UpAndDown(unittest.TestCase):
    def test_up_then_down_it_is_as_before(self):
        moved = 0
        for n in NS:
            for x, y in some_pairs(n, 30, 60):
                rows = ask(f"begin {n}", f"pair {x} {y}", "up", "down")
                if rows[2] != [-28]:
                    moved += 1
                    self.assertEqual(rows[3], rows[1])
        self.assertGreater(moved, 1000)

    def test_down_ends_at_a_first_one_of_the_same_difference(self):
        for n in NS:
            for x, y in some_pairs(n + 300, 20, 2000):
                rows = ask(f"begin {n}", f"pair {x} {y}", "itsfirst", *["down"] * 12)
                steps, u, v = rows[2]
                downs = rows[3:]
                self.assertEqual([row == [-16] for row in downs], [False] * steps + [True] * (12 - steps))
                end = ([[0, x, y, gap(n, x, y)]] + downs)[steps]
                self.assertEqual(end, [0, u, v, gap(n, x, y)])

    def test_steps_keep_the_difference(self):
        for n in (2, 3, 6, 7, 60):
            for x, y in some_pairs(n, 20, 300):
                rows = ask(f"begin {n}", f"pair {x} {y}", "up", "up", "down", "down", "down", "down")
                for row in rows[1:]:
                    if len(row) > 1:
                        self.assertEqual(row[3], gap(n, x, y))


class KinAndFamilies(unittest.TestCase):
    def kept_ones(self, n):
        """Eight pairs among which kin are likely."""
        source = Random(n)
        texts = [f"begin {n}"]
        for turn in range(4):
            texts += [f"pair {source.randint(0, 4)} {source.randint(1, 3)}", "keep", "up", "keep"]
        return texts

    def pairs_of(self, texts):
        row = last(*texts, "kept")
        return list(zip(row[1::2], row[2::2]))

    def reached(self, n, pair):
        """All that one comes to from the pair by steps up and down, as far as numbers at the desk go."""
        p, q = least_by_search(n)
        found, waiting = set(), [pair]
        while waiting:
            x, y = waiting.pop()
            if (x, y) in found or x > 1000000:
                continue
            found.add((x, y))
            waiting.append((p * x + n * q * y, p * y + q * x))
            if abs(p * y - q * x) < y:
                waiting.append((abs(p * x - n * q * y), abs(p * y - q * x)))
        return found

    def test_kin_just_if_one_comes_to_the_other(self):
        for n in (2, 3, 5, 6, 7, 10, 14, 60):
            texts = self.kept_ones(n)
            pairs = self.pairs_of(texts)
            for i in range(8):
                for j in range(8):
                    comes = pairs[i] in self.reached(n, pairs[j]) or pairs[j] in self.reached(n, pairs[i])
                    self.assertEqual(last(*texts, f"kin {i} {j}"), [int(comes)])

    def test_all_small_pairs_of_one_difference(self):
        compared = 0
        for n in (2, 7, 10):
            pairs = [(x, y) for y in range(30) for x in range(90) if gap(n, x, y) in (9, -9, 7, -7, 1, 49, -126)]
            for one, other in combinations(pairs, 2):
                comes = one in self.reached(n, other) or other in self.reached(n, one)
                self.assertEqual(last(f"begin {n}", *keeping(one, other), "kin 0 1"), [int(comes)])
                compared += 1
        self.assertGreater(compared, 200)

    def test_families_part_what_is_kept(self):
        for n in NS:
            texts = self.kept_ones(n)
            row = last(*texts, "families")
            least, sizes = row[1::2], row[2::2]
            self.assertEqual((len(least), len(sizes), sum(sizes)), (row[0], row[0], 8))
            self.assertEqual(least, sorted(set(least)))
            kin = [[last(*texts, f"kin {i} {j}")[0] for j in range(8)] for i in range(8)]
            for i in range(8):
                self.assertEqual(kin[i][i], 1)
                self.assertEqual(kin[i], [kin[j][i] for j in range(8)])
                self.assertEqual(kin[i], kin[kin[i].index(1)])
            self.assertEqual(least, sorted({kin[i].index(1) for i in range(8)}))
            self.assertEqual(sizes, [sum(kin[i]) for i in least])

    def test_kin_have_the_same_difference(self):
        for n in NS:
            texts = self.kept_ones(n)
            pairs = self.pairs_of(texts)
            for i in range(8):
                for j in range(8):
                    if gap(n, *pairs[i]) != gap(n, *pairs[j]):
                        self.assertEqual(last(*texts, f"kin {i} {j}"), [0])


class TheDifferenceOne(unittest.TestCase):
    def test_all_of_them_have_a_number(self):
        for n in NS:
            number = 0
            for y in range(0, 4000):
                x = round((n * y * y + 1) ** 0.5)
                if gap(n, x, y) == 1:
                    self.assertEqual(last(f"begin {n}", f"pair {x} {y}", "itsnumber"), [number])
                    number += 1


class TheWay(unittest.TestCase):
    def test_ends_with_the_least_pair(self):
        for n in NS:
            row = last(f"begin {n}", "way")
            self.assertEqual(tuple(row[-2:]), least_by_search(n))
            self.assertEqual(len(row), 1 + 2 * row[0])

    def test_differences_are_small_and_right_and_numbers_grow(self):
        for n in NS:
            way, diffs = ask(f"begin {n}", "way", "diffs")[1:]
            pairs = list(zip(way[1::2], way[2::2]))
            self.assertEqual([gap(n, a, b) for a, b in pairs], diffs[1:])
            self.assertTrue(all(k * k <= 4 * n for k in diffs[1:]))
            self.assertEqual([k for k in diffs[1:] if k == 1], diffs[-1:])
            for (a, b), (c, d) in zip(pairs, pairs[1:]):
                self.assertTrue(a < c and b < d)

    def test_comes_by_minus_one_if_some_pair_has_it(self):
        for n in NS:
            way, diffs = ask(f"begin {n}", "way", "diffs")[1:]
            least = least_by_search(n)
            some = [(x, y) for y in range(1, least[1] + 1) for x in (round(max(n * y * y - 1, 0) ** 0.5),)
                    if gap(n, x, y) == -1]
            self.assertEqual(-1 in diffs[1:], bool(some))
            if some:
                place = diffs[1:].index(-1)
                x, y = way[1 + 2 * place:3 + 2 * place]
                self.assertEqual(last(f"begin {n}", f"pair {x} {y}", "square"), [0, *least, 1])


if __name__ == "__main__":
    unittest.main()

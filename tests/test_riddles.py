"""answer, isanswer, answernumber, answerabove, manyanswers, answers, answerrule, answerof."""

import unittest
from itertools import combinations
from math import isqrt

from tests.lines import BILLION, GREATEST, Asking, ask, ask_all, last

BEFORE = ["begin 7", "pair 3 1"]
KINDS = range(5)
FROM = (1, 1, 1, 3, 2)
# The first answers of each kind, with all that's told of them.
FIRST = (
    ((1, 1, 1), (36, 6, 8), (1225, 35, 49), (41616, 204, 288)),
    ((1, 1), (6, 8), (35, 49), (204, 288)),
    ((3, 4, 5), (20, 21, 29), (119, 120, 169), (696, 697, 985)),
    ((3, 4, 5, 6), (13, 14, 15, 84), (51, 52, 53, 1170), (193, 194, 195, 16296)),
    ((3, 4), (15, 21), (85, 120), (493, 697)),
)


def root_of(square):
    """The whole root, or None."""
    return isqrt(square) if square >= 0 and isqrt(square) ** 2 == square else None


def triangle_of(whole):
    """The m for which all numbers from 1 to m are that together, or None."""
    root = root_of(8 * whole + 1)
    return None if root is None else (root - 1) // 2


def told_by_the_words(c, v):
    """All that's told of v if it's an answer, else None; each kind as the document tells it."""
    if v < FROM[c]:
        return None
    if c == 0:
        r, m = root_of(v), triangle_of(v)
        return None if r is None or m is None else [v, r, m]
    if c == 1:
        # All from 1 to m are all ahead twice, and the house itself.
        m = triangle_of(v * (v - 1) + v)
        return None if m is None else [v, m]
    if c == 2:
        h = root_of(v * v + (v + 1) * (v + 1))
        return None if h is None else [v, v + 1, h]
    if c == 3:
        # Sixteen times the area's square, by the three sides.
        area = root_of(3 * v * (v + 2) * v * (v - 2))
        return None if area is None or area % 4 else [v - 1, v, v + 1, area // 4]
    # n times n, less n, is twice as much as v times v, less v.
    root = root_of(1 + 8 * v * (v - 1))
    return None if root is None else [v, (1 + root) // 2]


def value(c, told):
    return told[1] if c == 3 else told[0]


def by_number(c, k):
    return last("begin 7", f"answer {c} {k}")[1:]


def all_up_to_a_thousand_millions(c):
    """What the answers are told by, each from the two before it, as far as they can be handed over."""
    times, more = ((34, 2), (6, 0), (6, 2), (4, 0), (6, -2))[c]
    values = [value(c, told) for told in FIRST[c][:2]]
    while values[-1] <= BILLION:
        values.append(times * values[-1] - values[-2] + more)
    return values[:-1]


class Answer(Asking):
    def test_the_first_of_each_kind(self):
        for c in KINDS:
            for k, told in enumerate(FIRST[c], start=1):
                self.assertEqual(ask(*BEFORE, f"answer {c} {k}", "told")[2:], [[0, *told], [7, 3, 1, 0, 1]])

    def test_the_twelfth(self):
        self.assertEqual(by_number(0, 12)[0], by_number(0, 12)[1] ** 2)
        self.assertEqual(by_number(1, 12), [271669860, 384199200])
        self.assertEqual(by_number(2, 12), [927538920, 927538921, 1311738121])
        self.assertEqual(by_number(3, 12)[1], 7300802)
        self.assertEqual(by_number(4, 12), [655869061, 927538921])

    def test_what_is_told_is_so(self):
        for c in KINDS:
            for k in range(1, 13):
                told = by_number(c, k)
                self.assertEqual(told, told_by_the_words(c, value(c, told)), (c, k))

    def test_refused(self):
        for c, k in ((5, 1), (GREATEST, 1), (5, 0), (5, 13), (GREATEST, GREATEST)):
            self.refused(BEFORE, f"answer {c} {k}", -22)
        for c in KINDS:
            for k in (0, 13, 1000, GREATEST):
                self.refused(BEFORE, f"answer {c} {k}", -22)


class IsNumberOf(Asking):
    def test_all_small_ones(self):
        for c in KINDS:
            vs = range(2501)
            told = [told_by_the_words(c, v) for v in vs]
            found = [v for v in vs if told[v] is not None]
            numbers = {v: k for k, v in enumerate(found, start=1)}
            for v, row in zip(vs, ask_all("begin 7", [f"isanswer {c} {v}" for v in vs])):
                self.assertEqual(row, [int(v in numbers)], (c, v))
            for v, row in zip(vs, ask_all("begin 7", [f"answernumber {c} {v}" for v in vs])):
                self.assertEqual(row, [numbers.get(v, -33)], (c, v))
            for v, row in zip(vs, ask_all("begin 7", [f"answerof {c} {v}" for v in vs])):
                self.assertEqual(row, [numbers[v], *told[v]] if v in numbers else [-33], (c, v))

    def test_by_counting(self):
        # Nothing but what the riddles say: sums, squares and ways to draw, counted out.
        for v in range(1, 60):
            triangles = [sum(range(1, m + 1)) for m in range(1, v + 1)]
            self.assertEqual(last("begin 7", f"isanswer 0 {v}"),
                             [int(v in triangles and v in [r * r for r in range(1, v + 1)])])
            streets = [m for m in range(v, 2 * v) if sum(range(1, v)) == sum(range(v + 1, m + 1))]
            self.assertEqual(last("begin 7", f"answerof 1 {v}")[2:], streets)
            hypotenuses = [h for h in range(2 * v + 2) if v * v + (v + 1) ** 2 == h * h]
            self.assertEqual(last("begin 7", f"isanswer 2 {v}"), [len(hypotenuses)])
        for v in range(2, 17):
            fitting = []
            for n in range(v, 2 * v):
                ways = list(combinations(range(n), 2))
                if 2 * sum(one < v and other < v for one, other in ways) == len(ways):
                    fitting.append(n)
            self.assertEqual(last("begin 7", f"answerof 4 {v}")[2:], fitting)

    def test_up_to_a_thousand_millions(self):
        for c in KINDS:
            values = all_up_to_a_thousand_millions(c)
            for k, v in enumerate(values, start=1):
                rows = ask("begin 7", f"isanswer {c} {v}", f"answernumber {c} {v}", f"answerof {c} {v}",
                           f"isanswer {c} {v - 1}", f"isanswer {c} {v + 1}")[1:]
                self.assertEqual(rows, [[1], [k], [k, *told_by_the_words(c, v)], [0], [0]])
        # Of kind 3 there are more than twelve.
        self.assertEqual(len(all_up_to_a_thousand_millions(3)), 15)
        self.assertEqual(last("begin 7", "answernumber 3 27246964"), [13])

    def test_a_thousand_millions(self):
        for c in KINDS:
            self.assertEqual(last("begin 7", f"isanswer {c} {BILLION}"), [0])
            self.refused(BEFORE, f"answernumber {c} {BILLION}", -33)
            self.refused(BEFORE, f"answerof {c} {BILLION}", -33)

    def test_0_and_1(self):
        self.assertEqual(ask("begin 7", *[f"isanswer {c} 0" for c in KINDS])[1:], [[0]] * 5)
        self.assertEqual(ask("begin 7", *[f"isanswer {c} 1" for c in KINDS])[1:], [[1], [1], [0], [0], [0]])
        self.assertEqual(ask("begin 7", *[f"answernumber {c} 1" for c in KINDS])[1:], [[1], [1], [-33], [-33], [-33]])
        self.assertEqual(ask("begin 7", "answerof 0 1", "answerof 1 1")[1:], [[1, 1, 1, 1], [1, 1, 1]])
        # 1, 2, 3 is no triangle, though its area would be whole: 0.
        self.assertEqual(last("begin 7", "isanswer 3 2"), [0])

    def test_an_answer_of_two_kinds(self):
        self.assertEqual(ask("begin 7", *[f"isanswer {c} 3" for c in KINDS])[1:], [[0], [0], [1], [0], [1]])
        self.assertEqual(ask("begin 7", "answerof 2 3", "answerof 4 3")[1:], [[1, 3, 4, 5], [1, 3, 4]])

    def test_refused(self):
        for c in KINDS:
            for v in (BILLION + 1, GREATEST):
                for name in ("isanswer", "answernumber", "answerof"):
                    self.refused(BEFORE, f"{name} {c} {v}", -22)
            for v in (0, 2, 5):
                self.refused(BEFORE, f"answernumber {c} {v}", -33)
                self.refused(BEFORE, f"answerof {c} {v}", -33)

    def test_refused_for_the_kind_first(self):
        # 2 is no answer of any kind: -33 would be due as well.
        for c in (5, 6, GREATEST):
            for v in (0, 1, 2, BILLION + 1, GREATEST):
                for name in ("isanswer", "answernumber", "answerof"):
                    self.refused(BEFORE, f"{name} {c} {v}", -22)


class AboveManyAll(Asking):
    def test_a_bound_of_nothing(self):
        for c in KINDS:
            least = value(c, FIRST[c][0])
            self.assertEqual(ask("begin 7", f"answerabove {c} 0", f"manyanswers {c} 0", f"answers {c} 0")[1:],
                             [[1, least], [0], [0]])

    def test_next_to_each(self):
        for c in KINDS:
            values = all_up_to_a_thousand_millions(c)
            for k, v in enumerate(values[:-1], start=1):
                after = values[k]
                rows = ask("begin 7", *[f"answerabove {c} {b}" for b in (v - 1, v, v + 1)],
                           *[f"manyanswers {c} {b}" for b in (v - 1, v, v + 1)])[1:]
                self.assertEqual(rows, [[k, v], [k, v], [k + 1, after], [k - 1], [k], [k]])

    def test_a_thousand_millions(self):
        for c in KINDS:
            values = all_up_to_a_thousand_millions(c)
            rows = ask("begin 7", f"manyanswers {c} {BILLION}", f"answerabove {c} {BILLION}")[1:]
            self.assertEqual(rows[0], [len(values)])
            self.assertEqual(rows[1][0], len(values) + 1)
            self.assertGreater(rows[1][1], BILLION)
            self.assertIsNotNone(told_by_the_words(c, rows[1][1]))
        self.assertEqual(last("begin 7", f"answerabove 3 {BILLION}"), [16, 1416317954])

    def test_2000(self):
        self.assertEqual(last("begin 7", "answers 0 2000"), [3, 1, 36, 1225])
        self.assertEqual(last("begin 7", "answers 1 2000"), [5, 1, 6, 35, 204, 1189])
        self.assertEqual(last("begin 7", "answers 2 2000"), [4, 3, 20, 119, 696])
        self.assertEqual(last("begin 7", "answers 3 2000"), [5, 4, 14, 52, 194, 724])
        self.assertEqual(last("begin 7", "answers 4 2000"), [4, 3, 15, 85, 493])

    def test_all_bounds(self):
        for c in KINDS:
            found = [v for v in range(2001) if told_by_the_words(c, v)]
            bounds = list(range(0, 130)) + list(range(130, 2001, 17)) + [1999, 2000]
            listed = ask_all("begin 7", [f"answers {c} {b}" for b in bounds])
            many = ask_all("begin 7", [f"manyanswers {c} {b}" for b in bounds])
            for b, row, count in zip(bounds, listed, many):
                fitting = [v for v in found if v <= b]
                self.assertEqual(row, [len(fitting)] + fitting)
                self.assertEqual(count, [len(fitting)])

    def test_refused(self):
        for c in KINDS:
            for b in (2001, BILLION, GREATEST):
                self.refused(BEFORE, f"answers {c} {b}", -22)
            for b in (BILLION + 1, GREATEST):
                self.refused(BEFORE, f"answerabove {c} {b}", -22)
                self.refused(BEFORE, f"manyanswers {c} {b}", -22)
        for c in (5, GREATEST):
            for name in ("answers", "answerabove", "manyanswers"):
                for b in (0, 1, GREATEST):
                    self.refused(BEFORE, f"{name} {c} {b}", -22)


class Rule(Asking):
    def test_each(self):
        for c in KINDS:
            for k in range(3, 13):
                self.assertEqual(ask(*BEFORE, f"answerrule {c} {k}", "told")[2:],
                                 [[0, value(c, by_number(c, k))], [7, 3, 1, 0, 1]])

    def test_some(self):
        self.assertEqual(ask("begin 7", *[f"answerrule {c} 3" for c in KINDS])[1:],
                         [[0, 1225], [0, 35], [0, 119], [0, 52], [0, 85]])

    def test_refused(self):
        for c in KINDS:
            for k in (0, 1, 2, 13, GREATEST):
                self.refused(BEFORE, f"answerrule {c} {k}", -22)
        for c in (5, GREATEST):
            for k in (2, 3, 13):
                self.refused(BEFORE, f"answerrule {c} {k}", -22)


if __name__ == "__main__":
    unittest.main()

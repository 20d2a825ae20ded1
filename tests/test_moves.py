"""begin, pair, keep, drop, take, with, from, against, up, down, makeone, back."""

import unittest

from tests.lines import CALLS, GREATEST, MILLION, NS, Asking, ask, gap, keeping, last, least_by_search


class Begin(Asking):
    def test_every_n_that_is_no_square(self):
        for n in range(0, 70):
            rows = ask(f"begin {n}", "told")
            if n in NS:
                self.assertEqual(rows, [[0], [n, 1, 0, 0, 0]])
            else:
                self.assertEqual(rows, [[-22], [-11]])

    def test_wrong_n(self):
        for n in (0, 1, 4, 9, 16, 25, 36, 49, 61, 64, 100, MILLION, GREATEST):
            self.assertEqual(ask(f"begin {n}"), [[-22]])

    def test_before_it_all_else_is_refused(self):
        for name, (number, size) in CALLS.items():
            if name == "begin":
                continue
            for argument in (0, 1, 2, GREATEST):
                text = " ".join([name] + [str(argument)] * size)
                self.assertEqual(ask(text), [[-11]])
                self.assertEqual(ask("begin 4", text, "begin 2", "told"),
                                 [[-22], [-11], [0], [2, 1, 0, 0, 0]])

    def test_again_all_is_new(self):
        rows = ask("begin 2", "pair 3 2", "keep", "up", "begin 7", "told", "kept", "back", "here")
        self.assertEqual(rows[4:], [[0], [7, 1, 0, 0, 0], [0], [-6], [0, 1, 0, 1]])

    def test_again_steps_go_by_the_new_n(self):
        self.assertEqual(last("begin 2", "up", "begin 3", "up"), [0, 2, 1, 1])

    def test_again_with_the_same_n(self):
        self.assertEqual(last("begin 2", "up", "keep", "begin 2", "told"), [2, 1, 0, 0, 0])

    def test_refused_behind_a_good_one_changes_nothing(self):
        for n in (0, 1, 4, 49, 61, GREATEST):
            self.refused(["begin 2", "pair 3 2", "keep", "up"], f"begin {n}", -22)


class PairCall(Asking):
    def test_told_with_its_difference(self):
        self.assertEqual(ask("begin 2", "pair 3 2", "here")[1:], [[0, 3, 2, 1]] * 2)
        self.assertEqual(last("begin 7", "pair 2 3"), [0, 2, 3, -59])

    def test_edges(self):
        self.assertEqual(last("begin 2", "pair 0 1"), [0, 0, 1, -2])
        self.assertEqual(last("begin 2", "pair 1 0"), [0, 1, 0, 1])
        self.assertEqual(last("begin 60", f"pair {MILLION} {MILLION}"),
                         [0, MILLION, MILLION, -59 * MILLION * MILLION])

    def test_refused(self):
        before = ["begin 2", "pair 7 5", "keep", "up"]
        for x, y in ((0, 0), (MILLION + 1, 0), (0, MILLION + 1), (GREATEST, GREATEST), (5, GREATEST)):
            self.refused(before, f"pair {x} {y}", -22)

    def test_is_a_move_even_to_the_same(self):
        self.assertEqual(last("begin 2", "pair 1 0", "told"), [2, 1, 0, 0, 1])


class KeepDropTake(Asking):
    def test_numbers_rise(self):
        rows = ask("begin 2", *["keep", "up"] * 3, "told", "kept")
        self.assertEqual(rows[1:7:2], [[0], [1], [2]])
        self.assertEqual(rows[-2:], [[2, 99, 70, 3, 3], [3, 1, 0, 3, 2, 17, 12]])

    def test_eight_and_one_more(self):
        rows = ask("begin 2", *["keep"] * 8)
        self.assertEqual(rows[1:], [[k] for k in range(8)])
        self.refused(["begin 2", "up", *["keep"] * 8], "keep", -28)

    def test_keep_behind_a_drop_of_eight(self):
        self.assertEqual(ask("begin 2", *["keep"] * 8, "drop 3", "keep")[-2:], [[7], [7]])

    def test_one_kept_twice(self):
        rows = ask("begin 2", "pair 3 1", "keep", "keep", "kept", "drop 0", "kept")
        self.assertEqual(rows[2:], [[0], [1], [2, 3, 1, 3, 1], [1], [1, 3, 1]])

    def test_drop_numbers_anew(self):
        pairs = [(1, 1), (2, 1), (3, 1), (4, 1)]
        for gone in range(4):
            rows = ask("begin 2", *keeping(*pairs), f"drop {gone}", "kept", "take 2")
            left = pairs[:gone] + pairs[gone + 1:]
            self.assertEqual(rows[-3], [3])
            self.assertEqual(rows[-2], [3] + [v for pair in left for v in pair])
            self.assertEqual(rows[-1][:3], [0, *left[2]])

    def test_drop_refused(self):
        self.refused(["begin 2"], "drop 0", -2)
        for i in (2, 3, 8, GREATEST):
            self.refused(["begin 2", *keeping((3, 1), (5, 2))], f"drop {i}", -2)

    def test_keep_and_drop_are_no_moves(self):
        rows = ask("begin 2", "pair 3 1", "keep", "pair 5 2", "keep", "drop 0", "told", "back", "kept", "back")
        self.assertEqual(rows[6:], [[2, 5, 2, 1, 2], [0, 3, 1, 7], [1, 5, 2], [0, 1, 0, 1]])

    def test_take(self):
        before = ["begin 2", *keeping((3, 1), (5, 2)), "up"]
        self.assertEqual(ask(*before, "take 0", "here", "told")[-3:],
                         [[0, 3, 1, 7], [0, 3, 1, 7], [2, 3, 1, 2, 4]])
        self.assertEqual(ask(*before, "take 1", "here")[-2:], [[0, 5, 2, 17]] * 2)

    def test_take_leaves_it_kept_and_apart_from_the_hand(self):
        rows = ask("begin 2", *keeping((3, 1)), "take 0", "up", "kept", "back")
        self.assertEqual(rows[-2:], [[1, 3, 1], [0, 3, 1, 7]])

    def test_take_refused(self):
        self.refused(["begin 2", "up"], "take 0", -2)
        for i in (1, 8, GREATEST):
            self.refused(["begin 2", *keeping((3, 1))], f"take {i}", -2)


class WithFromAgainst(Asking):
    def test_with(self):
        rows = ask("begin 3", *keeping((2, 1), (5, 4)), "pair 7 2", "with 1", "here", "told")
        self.assertEqual(rows[-3:], [[0, 59, 38, -851], [0, 59, 38, -851], [3, 59, 38, 2, 4]])
        self.assertEqual(last("begin 3", *keeping((2, 1), (5, 4)), "pair 7 2", "with 0"), [0, 20, 11, 37])

    def test_with_1_0_changes_nothing(self):
        self.assertEqual(last("begin 3", "keep", "pair 7 2", "with 0"), [0, 7, 2, 37])

    def test_with_up_to_a_million(self):
        before = ["begin 2", *keeping((MILLION, 0))]
        self.assertEqual(last(*before, "pair 1 0", "with 0"), [0, MILLION, 0, MILLION ** 2])
        self.assertEqual(last(*before, "pair 0 1", "with 0"), [0, 0, MILLION, -2 * MILLION ** 2])
        self.refused([*before, "pair 2 0"], "with 0", -28)
        self.refused([*before, "pair 0 2"], "with 0", -28)
        self.refused(["begin 2", *keeping((101, 0)), "pair 9901 0"], "with 0", -28)

    def test_with_refused_for_its_number_first(self):
        before = ["begin 2", *keeping((MILLION, MILLION))]
        self.refused(before, "with 0", -28)
        for i in (1, GREATEST):
            self.refused(before, f"with {i}", -2)
        self.refused(["begin 2", "up"], "with 0", -2)

    def test_against(self):
        rows = ask("begin 3", *keeping((2, 1), (5, 4)), "pair 7 2", "against 1", "here", "told")
        self.assertEqual(rows[-3:], [[0, 11, 18, -851], [0, 11, 18, -851], [3, 11, 18, 2, 4]])
        # Both what is taken off may be the greater.
        self.assertEqual(last("begin 3", *keeping((1, 4)), "pair 2 1", "against 0"), [0, 10, 7, -47])
        self.assertEqual(last("begin 3", *keeping((2, 1)), "pair 1 4", "against 0"), [0, 10, 7, -47])

    def test_against_itself(self):
        for n in (2, 7, 60):
            for x, y in ((3, 1), (1, 3), (0, 2), (5, 0)):
                product = gap(n, x, y)
                self.assertEqual(last(f"begin {n}", *keeping((x, y)), "against 0"),
                                 [0, abs(product), 0, product * product])

    def test_against_refused(self):
        before = ["begin 2", *keeping((MILLION, 0)), "pair 2 0"]
        self.refused(before, "against 0", -28)
        self.refused(["begin 2", *keeping((MILLION, 0)), "pair 0 2"], "against 0", -28)
        for i in (1, GREATEST):
            self.refused(before, f"against {i}", -2)
        self.refused(["begin 2", "up"], "against 0", -2)

    def test_against_may_be_small_where_with_is_too_great(self):
        before = ["begin 2", *keeping((1393, 985))]
        self.refused(before, "with 0", -28)
        self.assertEqual(last(*before, "against 0"), [0, 1, 0, 1])

    def test_from(self):
        rows = ask("begin 3", *keeping((2, 1), (5, 4)), "pair 59 38", "from 1", "here", "told")
        self.assertEqual(rows[-3:], [[0, 7, 2, 37], [0, 7, 2, 37], [3, 7, 2, 2, 4]])

    def test_from_itself_and_from_one(self):
        self.assertEqual(last("begin 3", *keeping((5, 4)), "from 0"), [0, 1, 0, 1])
        self.assertEqual(last("begin 3", "keep", "pair 5 4", "from 0"), [0, 5, 4, -23])

    def test_from_where_the_first_number_is_0(self):
        self.assertEqual(last("begin 3", *keeping((0, 2)), "pair 6 10", "from 0"), [0, 5, 1, 22])
        self.refused(["begin 3", *keeping((0, 2)), "pair 7 10"], "from 0", -33)
        self.refused(["begin 3", *keeping((0, 2)), "pair 6 11"], "from 0", -33)

    def test_from_refused(self):
        # The first two leave a rest, the others would be below 0.
        self.refused(["begin 2", *keeping((5, 0)), "pair 5 1"], "from 0", -33)
        self.refused(["begin 2", *keeping((5, 0)), "pair 1 5"], "from 0", -33)
        self.refused(["begin 2", *keeping((3, 2)), "pair 1 0"], "from 0", -33)
        self.refused(["begin 2", *keeping((3, 2)), "pair 0 1"], "from 0", -33)
        for i in (1, GREATEST):
            self.refused(["begin 2", *keeping((3, 2)), "pair 1 0"], f"from {i}", -2)
        self.refused(["begin 2", "up"], "from 0", -2)


class UpDown(Asking):
    def test_up_from_1_0_is_the_least(self):
        for n in NS:
            x, y = least_by_search(n)
            self.assertEqual(ask(f"begin {n}", "up", "here", "told"),
                             [[0], [0, x, y, 1], [0, x, y, 1], [n, x, y, 0, 1]])

    def test_up(self):
        self.assertEqual(last("begin 7", "pair 3 1", "up"), [0, 45, 17, 2])
        self.assertEqual(last("begin 7", "pair 0 1", "up"), [0, 21, 8, -7])

    def test_up_to_a_million_and_no_more(self):
        self.assertEqual(last("begin 3", "pair 500000 0", "up"), [0, MILLION, 500000, 250000000000])
        self.refused(["begin 3", "pair 500001 0"], "up", -28)
        self.assertEqual(last("begin 2", "pair 200000 100000", "up")[:3], [0, MILLION, 700000])
        self.refused(["begin 53", "up"], "up", -28)
        self.refused(["begin 2", f"pair {MILLION} {MILLION}"], "up", -28)

    def test_down(self):
        rows = ask("begin 7", "pair 45 17", "down", "here", "told")
        self.assertEqual(rows[2:], [[0, 3, 1, 2], [0, 3, 1, 2], [7, 3, 1, 0, 2]])
        self.assertEqual(last("begin 2", "pair 3 2", "down"), [0, 1, 0, 1])
        self.assertEqual(last("begin 2", "pair 7 5", "down"), [0, 1, 1, -1])

    def test_down_where_what_is_taken_off_is_greater(self):
        self.assertEqual(last("begin 2", "pair 5 3", "down"), [0, 3, 1, 7])
        self.assertEqual(last("begin 2", "pair 5 4", "down"), [0, 1, 2, -7])

    def test_down_refused_of_a_first_one(self):
        self.refused(["begin 2", "up", "back"], "down", -16)
        for n, x, y in ((2, 0, 1), (2, 1, 1), (2, 5, 0), (7, 3, 1), (2, 3, 1), (3, 0, MILLION), (2, MILLION, 0)):
            self.refused([f"begin {n}", f"pair {x} {y}"], "down", -16)

    def test_down_refused_where_it_stays_as_great(self):
        # The step down leads to the same y: as great is not lesser.
        self.refused(["begin 2", "pair 2 1"], "down", -16)
        self.refused(["begin 6", "pair 2 1"], "down", -16)


class MakeOne(Asking):
    CASES = [
        (2, 3, 2, 3, 2),            # 1: the pair itself
        (2, 1, 0, 1, 0),
        (2, 7, 5, 99, 70),          # -1
        (2, 2, 1, 3, 2),            # 2
        (2, 0, 1, 1, 0),            # -2, from nothing and 1
        (3, 1, 1, 2, 1),            # -2
        (3, 4, 2, 2, 1),            # 4, both even
        (5, 3, 1, 9, 4),            # 4, both odd
        (12, 4, 1, 7, 2),           # 4, the first even alone
        (5, 1, 1, 9, 4),            # -4, odd
        (8, 2, 1, 99, 35),          # -4, even
        (13, 3, 1, 649, 180),       # -4
        (13, 11, 3, 649, 180),      # 4, both odd
    ]

    def test_each_way(self):
        for n, x, y, u, v in self.CASES:
            rows = ask(f"begin {n}", f"pair {x} {y}", "makeone", "here", "told")
            self.assertEqual(rows[2:], [[0, u, v, 1], [0, u, v, 1], [n, u, v, 0, 2]])

    def test_refused_for_its_difference(self):
        for n, x, y in ((2, 3, 1), (2, 0, 2), (7, 2, 1), (2, MILLION, MILLION), (60, MILLION, 0), (3, 3, 2), (6, 3, 1)):
            self.refused([f"begin {n}", f"pair {x} {y}"], "makeone", -33)

    def test_refused_as_too_great(self):
        cases = ((2, 1393, 985, -1), (2, 1970, 1393, 2), (5, 843, 377, 4), (12, 10084, 2911, 4),
                 (5, 29, 13, -4), (8, 478, 169, -4))
        for n, x, y, difference in cases:
            self.assertEqual(gap(n, x, y), difference)
            self.refused([f"begin {n}", f"pair {x} {y}"], "makeone", -28)

    def test_just_not_too_great(self):
        self.assertEqual(last("begin 5", "pair 123 55", "makeone"), [0, 930249, 416020, 1])
        self.assertEqual(last("begin 5", "pair 11 5", "makeone"), [0, 930249, 416020, 1])
        self.assertEqual(last("begin 12", "pair 724 209", "makeone"), [0, 262087, 75658, 1])


class Back(Asking):
    def test_nothing_to_take_back(self):
        self.refused(["begin 2"], "back", -6)
        self.refused(["begin 2", "up", "back"], "back", -6)

    def test_each_move_is_taken_back(self):
        before = ["begin 2", *keeping((3, 2)), "pair 17 12"]
        for text in ("pair 5 5", "take 0", "with 0", "from 0", "against 0", "up", "down", "makeone"):
            rows = ask(*before, text, "told", "back", "told", "here")
            self.assertEqual(rows[-4][-1], 3, text)
            self.assertEqual(rows[-3:], [[0, 17, 12, 1], [2, 17, 12, 1, 2], [0, 17, 12, 1]], text)

    def test_no_move_is_made_by_what_is_no_move(self):
        before = ["begin 2", *keeping((3, 2)), "pair 17 12"]
        asked = ["keep", "drop 1", "all", "kin 0 0", "families", "sets 0 1", "kept", "itsnumber", "itsfirst",
                 "here", "square", "power 3", "parted 3 2", "one", "nearest 5", "closest 5", "of 1 1",
                 "both 1 1 1 1", "root 5", "steps 3", "way", "diffs", "leastof 3", "long 3", "short", "longest 9",
                 "greatest 9", "minus 5", "nth 3 2", "number 3 2", "is 3 2", "above 9", "many 9", "divides 1 2",
                 "common 1 2", "together 1 2", "rule 2", "rootby 1 9", "leftof 5 2", "round 5", "first", "isfirst",
                 "firsts 0 1", "can 0 1", "least 0 1", "upto 0 1 9", "manyupto 0 1 9", "bound 9", "which 0 9",
                 "withy 0 1 2", "other", "answer 0 1", "isanswer 0 1", "answernumber 0 1", "answerabove 0 1",
                 "manyanswers 0 1", "answers 0 1", "answerrule 0 3", "answerof 0 1"]
        moves = ["begin", "pair", "take", "with", "from", "against", "up", "down", "makeone", "back", "told"]
        self.assertEqual(sorted([text.split()[0] for text in asked] + moves), sorted(CALLS))
        for text in asked:
            self.assertEqual(last(*before, text, "told")[0:3], [2, 17, 12], text)
            self.assertEqual(last(*before, text, "told")[4], 2, text)

    def test_twelve_moves_and_one_more(self):
        moves = [f"pair {k} 1" for k in range(1, 14)]
        rows = ask("begin 2", *moves[:12], "told", *["back"] * 13)
        self.assertEqual(rows[13], [2, 12, 1, 0, 12])
        self.assertEqual([row[:3] for row in rows[14:25]], [[0, k, 1] for k in range(11, 0, -1)])
        self.assertEqual(rows[25:], [[0, 1, 0, 1], [-6]])
        rows = ask("begin 2", *moves, "told", *["back"] * 13, "here")
        self.assertEqual(rows[14], [2, 13, 1, 0, 12])
        self.assertEqual([row[:3] for row in rows[15:27]], [[0, k, 1] for k in range(12, 0, -1)])
        self.assertEqual(rows[27:], [[-6], [0, 1, 1, -1]])

    def test_moves_behind_a_move_taken_back(self):
        rows = ask("begin 2", "pair 3 1", "pair 4 1", "back", "pair 5 1", "back", "back", "back")
        self.assertEqual(rows[-3:], [[0, 3, 1, 7], [0, 1, 0, 1], [-6]])

    def test_leaves_what_is_kept(self):
        rows = ask("begin 2", "pair 3 1", "keep", "back", "kept", "keep", "kept")
        self.assertEqual(rows[3:], [[0, 1, 0, 1], [1, 3, 1], [1], [2, 3, 1, 1, 0]])


if __name__ == "__main__":
    unittest.main()

"""nearsquares.desk.answers: what is handed in and how it's answered."""

import unittest
from random import Random

from nearsquares.desk import answers
from tests.lines import BILLION, CALLS, GREATEST, MILLION, ask, line, parts


def mixed_line(seed, size):
    """Calls of all kinds, small numbers and great ones, the same each time."""
    source = Random(seed)
    numbers = [0, source.choice([2, 3, 5, 7, 46, 53, 60])]
    for turn in range(size - 1):
        number, arguments = CALLS[source.choice(sorted(CALLS))]
        if number == 0 and source.random() < 0.8:
            number, arguments = CALLS["keep"]
        numbers.append(number)
        for place in range(arguments):
            numbers.append(source.choice([0, 1, 2, 3, 5, 7, source.randint(0, 70), MILLION, MILLION + 1,
                                          BILLION, GREATEST]))
    return numbers


def call_numbers(calls):
    """The numbers of the calls in a line, one behind another."""
    sizes = dict(CALLS.values())
    found = []
    place = 0
    while place < len(calls):
        found.append(calls[place])
        place += 1 + sizes[calls[place]]
    return found


class Interface(unittest.TestCase):
    def test_numbers_in_the_order_of_the_words(self):
        self.assertEqual(answers([19]), [1, -11])
        self.assertEqual(answers([0, 2]), [1, 0])
        self.assertEqual(answers([0, 4]), [1, -22])
        self.assertEqual(answers([0, 2, 1, 3, 1, 2, 8, 2, 12, 14, 16, 18, 20]),
                         [1, 0, 4, 0, 3, 1, 7, 1, 0, 4, 0, 13, 9, 7, 1, 1, 4, 0, 57, 40, 49, 3, 1, 0, 2,
                          5, 2, 3, 1, 13, 9, 3, 1, 3, 1, 5, 2, 13, 9, 2, 2])
        self.assertEqual(answers([0, 2, 31, 32, 33, 3, 34, 3, 30, 0, 27, 1, 1, 29, 11]),
                         [1, 0, 5, 2, 1, 1, 3, 2, 3, 2, -1, 1, 3, 0, 2, 1, 1, 0, 4, 0, 1, 1, -1, 2, 0, -1, 2, 3, 2])

    def test_each_number_and_its_arguments(self):
        # A call that took too few or too many arguments would not leave the told behind it.
        for name, (number, size) in CALLS.items():
            rows = parts(answers([0, 2, number] + [3] * size + [20]))
            self.assertEqual(len(rows), 3, name)
            self.assertEqual(len(rows[2]), 5, name)

    def test_great_arguments_are_refused(self):
        expected = {"begin": -22, "pair": -22, "drop": -2, "take": -2, "with": -2, "from": -2, "against": -2,
                    "kin": -2, "sets": -22, "power": -22, "parted": -22, "nearest": -22, "closest": -22, "of": -22,
                    "both": -22, "root": -22, "steps": -22, "leastof": -22, "long": -22, "longest": -22,
                    "greatest": -22, "minus": -22, "nth": -22, "number": -33, "divides": -22, "common": -22,
                    "together": -22, "rule": -22, "rootby": -22, "leftof": -22, "round": -22, "firsts": -22,
                    "can": -22, "least": -22, "upto": -22, "manyupto": -22, "bound": -22, "which": -22, "withy": -22,
                    "answer": -22, "isanswer": -22, "answernumber": -22, "answerabove": -22, "manyanswers": -22,
                    "answers": -22, "answerrule": -22, "answerof": -22}
        answered = ["above", "is", "many"]
        self.assertEqual(sorted(list(expected) + answered),
                         sorted(name for name, (number, size) in CALLS.items() if size > 0))
        for name, refusal in expected.items():
            number, size = CALLS[name]
            for great in (GREATEST, GREATEST - 1):
                rows = parts(answers(line("begin 2", "pair 3 2", "keep", "told") + [number] + [great] * size + [20]))
                self.assertEqual(rows[4], [refusal], name)
                self.assertEqual(rows[3], rows[5], name)

    def test_great_arguments_that_are_answered(self):
        self.assertEqual(ask("begin 2", f"is {GREATEST} {GREATEST}", f"many {GREATEST}", f"above {GREATEST}")[1:],
                         [[0], [14], [14, 26102926097, 18457556052]])

    def test_a_great_argument_at_each_place(self):
        # The others fit, so that the great one alone is what's refused.
        fitting = {"nth": (2, 1), "divides": (1, 1), "common": (1, 1), "together": (1, 1), "rootby": (1, 1),
                   "leftof": (1, 1), "firsts": (0, 1), "can": (0, 1), "least": (0, 1), "upto": (0, 1, 1),
                   "manyupto": (0, 1, 1), "which": (0, 1), "withy": (0, 1, 0), "answer": (0, 1),
                   "isanswer": (0, 1), "answernumber": (0, 1), "answerabove": (0, 1), "manyanswers": (0, 1),
                   "answers": (0, 1), "answerrule": (0, 3), "answerof": (0, 1)}
        for name, numbers in fitting.items():
            row = parts(answers([0, 2, CALLS[name][0], *numbers]))[1]
            self.assertGreaterEqual(row[0], 0, name)
            for place in range(len(numbers)):
                great = numbers[:place] + (GREATEST,) + numbers[place + 1:]
                self.assertEqual(parts(answers([0, 2, CALLS[name][0], *great]))[1], [-22], (name, place))

    def test_how_pairs_are_told(self):
        # With n of 7 and 11, 4 at hand, one call after another as the interface lists them.
        rows = ask("begin 7", "pair 11 4", "keep", "short", "longest 7", "greatest 7", "minus 5", "nth 7 1", "number 8 3",
                   "is 8 3", "above 3", "many 3", "divides 1 2", "common 1 2", "together 1 0", "rule 2", "rootby 1 9",
                   "leftof 5 1", "round 5", "first", "isfirst", "firsts 0 9", "can 0 9", "least 0 9", "upto 0 9 4",
                   "manyupto 0 9 4", "bound 9", "which 0 9", "withy 0 9 4", "other", "here")
        self.assertEqual(rows[3:], [
            [0, 3, 1, 2], [2, 1], [5, 9], [0, 2, 1], [0, 8, 3], [1],
            [1], [1, 8, 3], [2], [1], [0, 3], [0, 8, 3], [0, 127, 48], [0, 24, 23],
            [0, 3, 3], [6], [1, 4, 1], [0], [2, 3, 0, 4, 1], [1], [0, 3, 0], [3, 3, 0, 4, 1, 11, 4],
            [3], [2], [5, 1, 2, 4, 8, 9], [0, 11, 4], [0, 4, 1], [0, 11, 4, 9]])
        rows = ask("begin 7", "answer 3 1", "isanswer 3 4", "answernumber 3 4", "answerabove 3 5", "manyanswers 3 5",
                   "answers 3 52", "answerrule 3 3", "answerof 3 14")
        self.assertEqual(rows[1:], [[0, 3, 4, 5, 6], [1], [1], [2, 14], [1], [3, 4, 14, 52], [0, 52],
                                    [2, 13, 14, 15, 84]])

    def test_by_numbers_alone(self):
        self.assertEqual(answers([35, 69, 0, 1, 0, 7, 35, 51, 56, 0, 9, 4, 69, 3, 14]),
                         [1, -11, 1, -11, 1, 0, 4, 0, 3, 1, 2, 3, 0, 1, 0, 7, 3, 3, 0, 4, 1, 11, 4,
                          5, 2, 13, 14, 15, 84])

    def test_all_70_calls(self):
        self.assertEqual(sorted(number for number, size in CALLS.values()), list(range(70)))
        numbers = set()
        for seed in range(60):
            numbers |= set(call_numbers(mixed_line(seed, 120)))
        self.assertEqual(numbers, set(range(70)))

    def test_what_is_handed_in_stays_as_it_was(self):
        for seed in range(30):
            calls = mixed_line(seed, 120)
            copy = list(calls)
            answers(calls)
            self.assertEqual(calls, copy)

    def test_twice_the_same(self):
        for seed in range(30):
            calls = mixed_line(seed, 120)
            first = answers(calls)
            kept = list(first)
            answers(mixed_line(seed + 1000, 120))
            self.assertEqual(answers(calls), kept)
            self.assertEqual(first, kept)

    def test_each_list_has_a_desk_of_its_own(self):
        ask("begin 2", "up", "keep")
        self.assertEqual(ask("told"), [[-11]])

    def test_lists_of_120_calls(self):
        for seed in range(60):
            rows = parts(answers(mixed_line(seed, 120)))
            self.assertEqual(len(rows), 120)
            for row in rows:
                self.assertEqual([type(number) for number in row], [int] * len(row))
                if row[0] < 0:
                    self.assertEqual(len(row), 1)
                    self.assertIn(row[0], (-2, -6, -11, -16, -22, -28, -33))

    def test_120_of_one_kind(self):
        rows = ask("begin 53", *["way"] * 119)
        self.assertEqual(rows[1:], [rows[1]] * 119)
        rows = ask("begin 53", *["steps 60"] * 119)
        self.assertEqual(rows[1:], [rows[1]] * 119)
        for text in ("which 1 60", "manyupto 1 60 2000", "longest 60", "greatest 60", "round 97", "nth 53 12",
                     f"answerof 3 {BILLION}", f"above {GREATEST}"):
            rows = ask("begin 53", *[text] * 119)
            self.assertEqual(rows[1:], [rows[1]] * 119)
        rows = ask("begin 2", *["pair 1 1", "back"] * 59, "told")
        self.assertEqual(rows[-1], [2, 1, 0, 0, 0])
        self.assertEqual(ask(*["keep"] * 120), [[-11]] * 120)
        self.assertEqual(ask("begin 3", *["keep"] * 119)[1:], [[k] for k in range(8)] + [[-28]] * 111)


if __name__ == "__main__":
    unittest.main()

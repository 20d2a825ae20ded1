"""nearsquares.desk.answers: what is handed in and how it's answered."""

import unittest
from random import Random

from nearsquares.desk import answers
from tests.lines import CALLS, GREATEST, MILLION, ask, line, parts


def mixed_line(seed, size):
    """Calls of all kinds, small numbers and great ones, the same each time."""
    source = Random(seed)
    numbers = [0, source.choice([2, 3, 5, 7, 46, 53, 60])]
    for turn in range(size - 1):
        number, arguments = CALLS[source.choice(sorted(CALLS))]
        if number == 0 and source.random() < 0.8:
            number, arguments = CALLS["keep"]
        numbers.append(number)
        for place in range(arguments):
            numbers.append(source.choice([0, 1, 2, 3, 5, 7, source.randint(0, 70), MILLION, MILLION + 1, GREATEST]))
    return numbers


class Interface(unittest.TestCase):
    def test_numbers_in_the_order_of_the_words(self):
        self.assertEqual(answers([19]), [1, -11])
        self.assertEqual(answers([0, 2]), [1, 0])
        self.assertEqual(answers([0, 4]), [1, -22])
        self.assertEqual(answers([0, 2, 1, 3, 1, 2, 8, 2, 12, 14, 16, 18, 20]),
                         [1, 0, 4, 0, 3, 1, 7, 1, 0, 4, 0, 13, 9, 7, 1, 1, 4, 0, 57, 40, 49, 3, 1, 0, 2,
                          5, 2, 3, 1, 13, 9, 3, 1, 3, 1, 5, 2, 13, 9, 2, 2])
        self.assertEqual(answers([0, 2, 31, 32, 33, 3, 34, 3, 30, 0, 27, 1, 1, 29, 11]),
                         [1, 0, 5, 2, 1, 1, 3, 2, 3, 2, -1, 1, 3, 0, 2, 1, 1, 0, 4, 0, 1, 1, -1, 2, 0, -1, 2, 3, 2])

    def test_each_number_and_its_arguments(self):
        # A call that took too few or too many arguments would not leave the told behind it.
        for name, (number, size) in CALLS.items():
            rows = parts(answers([0, 2, number] + [3] * size + [20]))
            self.assertEqual(len(rows), 3, name)
            self.assertEqual(len(rows[2]), 5, name)

    def test_great_arguments_are_refused(self):
        expected = {"begin": -22, "pair": -22, "drop": -2, "take": -2, "with": -2, "from": -2, "against": -2,
                    "kin": -2, "sets": -22, "power": -22, "parted": -22, "nearest": -22, "closest": -22, "of": -22,
                    "both": -22, "root": -22, "steps": -22, "leastof": -22, "long": -22}
        self.assertEqual(sorted(expected), sorted(name for name, (number, size) in CALLS.items() if size > 0))
        for name, refusal in expected.items():
            number, size = CALLS[name]
            for great in (GREATEST, GREATEST - 1):
                rows = parts(answers(line("begin 2", "pair 3 2", "keep", "told") + [number] + [great] * size + [20]))
                self.assertEqual(rows[4], [refusal], name)
                self.assertEqual(rows[3], rows[5], name)

    def test_what_is_handed_in_stays_as_it_was(self):
        for seed in range(30):
            calls = mixed_line(seed, 40)
            copy = list(calls)
            answers(calls)
            self.assertEqual(calls, copy)

    def test_twice_the_same(self):
        for seed in range(30):
            calls = mixed_line(seed, 40)
            first = answers(calls)
            kept = list(first)
            answers(mixed_line(seed + 1000, 40))
            self.assertEqual(answers(calls), kept)
            self.assertEqual(first, kept)

    def test_each_list_has_a_desk_of_its_own(self):
        ask("begin 2", "up", "keep")
        self.assertEqual(ask("told"), [[-11]])

    def test_lists_of_120_calls(self):
        for seed in range(60):
            rows = parts(answers(mixed_line(seed, 120)))
            self.assertEqual(len(rows), 120)
            for row in rows:
                self.assertEqual([type(number) for number in row], [int] * len(row))
                if row[0] < 0:
                    self.assertEqual(len(row), 1)
                    self.assertIn(row[0], (-2, -6, -11, -16, -22, -28, -33))

    def test_120_of_one_kind(self):
        rows = ask("begin 53", *["way"] * 119)
        self.assertEqual(rows[1:], [rows[1]] * 119)
        rows = ask("begin 53", *["steps 60"] * 119)
        self.assertEqual(rows[1:], [rows[1]] * 119)
        rows = ask("begin 2", *["pair 1 1", "back"] * 59, "told")
        self.assertEqual(rows[-1], [2, 1, 0, 0, 0])
        self.assertEqual(ask(*["keep"] * 120), [[-11]] * 120)
        self.assertEqual(ask("begin 3", *["keep"] * 119)[1:], [[k] for k in range(8)] + [[-28]] * 111)


if __name__ == "__main__":
    unittest.main()

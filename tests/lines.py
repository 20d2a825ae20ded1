"""Calls by their names, for all tests."""

import unittest

from nearsquares.desk import answers

# Each call's number and how many arguments it has, as the interface tells them.
CALLS = {
    "begin": (0, 1), "pair": (1, 2), "keep": (2, 0), "drop": (3, 1), "take": (4, 1),
    "with": (5, 1), "from": (6, 1), "against": (7, 1), "up": (8, 0), "down": (9, 0),
    "makeone": (10, 0), "back": (11, 0), "all": (12, 0), "kin": (13, 2), "families": (14, 0),
    "sets": (15, 2), "kept": (16, 0), "itsnumber": (17, 0), "itsfirst": (18, 0), "here": (19, 0),
    "told": (20, 0), "square": (21, 0), "power": (22, 1), "parted": (23, 2), "one": (24, 0),
    "nearest": (25, 1), "closest": (26, 1), "of": (27, 2), "both": (28, 4), "root": (29, 1),
    "steps": (30, 1), "way": (31, 0), "diffs": (32, 0), "leastof": (33, 1), "long": (34, 1),
}

GREATEST = 4294967295
MILLION = 1000000
NS = [n for n in range(2, 61) if n not in (4, 9, 16, 25, 36, 49)]


def line(*texts):
    """The list of numbers for calls told as texts, such as "pair 3 2"."""
    numbers = []
    for text in texts:
        name, *arguments = text.split()
        number, size = CALLS[name]
        if len(arguments) != size:
            raise ValueError(text)
        numbers += [number] + [int(argument) for argument in arguments]
    return numbers


def parts(row):
    """What is answered, one list a call."""
    rows = []
    place = 0
    while place < len(row):
        size = row[place]
        rows.append(row[place + 1:place + 1 + size])
        if len(rows[-1]) != size or size < 1:
            raise ValueError(row)
        place += 1 + size
    return rows


def ask(*texts):
    """The answers to all these calls, one list each."""
    rows = parts(answers(line(*texts)))
    if len(rows) != len(texts):
        raise ValueError(rows)
    return rows


def last(*texts):
    """The answer to the last of these calls."""
    return ask(*texts)[-1]


def keeping(*pairs):
    """The calls that keep these pairs."""
    texts = []
    for x, y in pairs:
        texts += [f"pair {x} {y}", "keep"]
    return texts


class Asking(unittest.TestCase):
    def refused(self, before, text, number):
        """Refused by that number alone, and all is as it was, what can be taken back, too."""
        view = ["here", "told", "kept"] + ["back"] * 13
        rows = ask(*before, text, *view)[len(before):]
        self.assertEqual(rows[0], [number], text)
        self.assertEqual(rows[1:], ask(*before, *view)[len(before):], text)


def gap(n, x, y):
    return x * x - n * y * y


def least_by_search(n):
    """The pair with the difference 1 that has the least y above 0, tried one by one."""
    y = 1
    while True:
        x = round((n * y * y + 1) ** 0.5)
        if gap(n, x, y) == 1:
            return x, y
        y += 1

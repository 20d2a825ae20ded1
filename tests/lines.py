"""Calls by their names, for all tests."""

import unittest
from functools import cache
from math import comb, isqrt

from nearsquares.desk import answers

# Each call's number and how many arguments it has, as the interface tells them.
CALLS = {
    "begin": (0, 1), "pair": (1, 2), "keep": (2, 0), "drop": (3, 1), "take": (4, 1),
    "with": (5, 1), "from": (6, 1), "against": (7, 1), "up": (8, 0), "down": (9, 0),
    "makeone": (10, 0), "back": (11, 0), "all": (12, 0), "kin": (13, 2), "families": (14, 0),
    "sets": (15, 2), "kept": (16, 0), "itsnumber": (17, 0), "itsfirst": (18, 0), "here": (19, 0),
    "told": (20, 0), "square": (21, 0), "power": (22, 1), "parted": (23, 2), "one": (24, 0),
    "nearest": (25, 1), "closest": (26, 1), "of": (27, 2), "both": (28, 4), "root": (29, 1),
    "steps": (30, 1), "way": (31, 0), "diffs": (32, 0), "leastof": (33, 1), "long": (34, 1),
    "short": (35, 0), "longest": (36, 1), "greatest": (37, 1), "minus": (38, 1), "nth": (39, 2),
    "number": (40, 2), "is": (41, 2), "above": (42, 1), "many": (43, 1), "divides": (44, 2),
    "common": (45, 2), "together": (46, 2), "rule": (47, 1), "rootby": (48, 2), "leftof": (49, 2),
    "round": (50, 1), "first": (51, 0), "isfirst": (52, 0), "firsts": (53, 2), "can": (54, 2),
    "least": (55, 2), "upto": (56, 3), "manyupto": (57, 3), "bound": (58, 1), "which": (59, 2),
    "withy": (60, 3), "other": (61, 0), "answer": (62, 2), "isanswer": (63, 2), "answernumber": (64, 2),
    "answerabove": (65, 2), "manyanswers": (66, 2), "answers": (67, 2), "answerrule": (68, 2), "answerof": (69, 2),
}

GREATEST = 4294967295
MILLION = 1000000
BILLION = 1000000000
WRONG_NS = (0, 1, 4, 9, 16, 25, 36, 49, 61, 62, 64, GREATEST)
NS = [n for n in range(2, 61) if n not in (4, 9, 16, 25, 36, 49)]


def line(*texts):
    """The list of numbers for calls told as texts, such as "pair 3 2"."""
    numbers = []
    for text in texts:
        name, *arguments = text.split()
        number, size = CALLS[name]
        if len(arguments) != size:
            raise ValueError(text)
        numbers += [number] + [int(argument) for argument in arguments]
    return numbers


def parts(row):
    """What is answered, one list a call."""
    rows = []
    place = 0
    while place < len(row):
        size = row[place]
        rows.append(row[place + 1:place + 1 + size])
        if len(rows[-1]) != size or size < 1:
            raise ValueError(row)
        place += 1 + size
    return rows


def ask(*texts):
    """The answers to all these calls, one list each."""
    rows = parts(answers(line(*texts)))
    if len(rows) != len(texts):
        raise ValueError(rows)
    return rows


def ask_all(begin, texts):
    """The answers to however many calls, in lines of at most 120, each of which begins anew."""
    rows = []
    for place in range(0, len(texts), 119):
        rows += ask(begin, *texts[place:place + 119])[1:]
    return rows


def last(*texts):
    """The answer to the last of these calls."""
    return ask(*texts)[-1]


def keeping(*pairs):
    """The calls that keep these pairs."""
    texts = []
    for x, y in pairs:
        texts += [f"pair {x} {y}", "keep"]
    return texts


class Asking(unittest.TestCase):
    def refused(self, before, text, number):
        """Refused by that number alone, and all is as it was, what can be taken back, too."""
        view = ["here", "told", "kept"] + ["back"] * 13
        rows = ask(*before, text, *view)[len(before):]
        self.assertEqual(rows[0], [number], text)
        self.assertEqual(rows[1:], ask(*before, *view)[len(before):], text)


def gap(n, x, y):
    return x * x - n * y * y


@cache
def least_by_search(n):
    """The pair with the difference 1 that has the least y above 0, tried one by one."""
    y = 1
    while True:
        x = round((n * y * y + 1) ** 0.5)
        if gap(n, x, y) == 1:
            return x, y
        y += 1


def numbered(n, k):
    """Pair number k of n: the least one to the power of k, by the binomial theorem."""
    p, q = least_by_search(n)
    terms = [comb(k, i) * p ** (k - i) * q ** i * n ** (i // 2) for i in range(k + 1)]
    return sum(terms[0::2]), sum(terms[1::2])


def pairs_by_search(n, most, b):
    """For each difference of at most that much, either way, all pairs with y from 0 to b, by y."""
    found = {}
    for y in range(b + 1):
        x = isqrt(max(n * y * y - most, 0))
        while gap(n, x, y) <= most:
            if abs(gap(n, x, y)) <= most and (x, y) != (0, 0):
                found.setdefault(gap(n, x, y), []).append((x, y))
            x += 1
    return found


def step_down(n, x, y):
    p, q = least_by_search(n)
    return abs(p * x - n * q * y), abs(p * y - q * x)


def flat(pairs):
    return [number for pair in pairs for number in pair]

"""Long lines of calls against a second, plain telling of what the desk does."""

import unittest
from random import Random

from tests.lines import BILLION, CALLS, GREATEST, MILLION, NS, ask, numbered
from tests.stagemodel import StageModel, answers_of

STAGE_NAMES = [name for name, (number, size) in CALLS.items() if number > 20]

# For each of the stages' arguments numbers of which most fit; others come, too.
NEAR = {
    "power": [range(14)], "parted": [range(10), range(10)], "nearest": [range(1002)], "closest": [range(62)],
    "of": [range(100), range(100)], "both": [range(9)] * 4, "root": [range(10002)], "steps": [range(62)],
    "leastof": [range(62)], "long": [range(62)], "longest": [range(62)], "greatest": [range(62)],
    "minus": [range(62)], "nth": [range(62), range(14)], "number": [range(20), range(20)],
    "is": [range(20), range(20)], "above": [range(10 ** 5)], "many": [range(10 ** 5)],
    "divides": [range(14), range(14)], "common": [range(14), range(14)], "together": [range(14), range(14)],
    "rule": [range(14)], "rootby": [range(14), range(MILLION + 9)], "leftof": [range(1002), range(14)],
    "round": [range(102)], "firsts": [range(2), range(62)], "can": [range(2), range(62)],
    "least": [range(2), range(62)], "upto": [range(2), range(62), range(302)],
    "manyupto": [range(2), range(62), range(2002)], "bound": [range(62)], "which": [range(2), range(62)],
    "withy": [range(2), range(62), range(9)], "answer": [range(6), range(14)],
    "isanswer": [range(6), range(40)], "answernumber": [range(6), range(40)],
    "answerabove": [range(6), range(BILLION + 9)], "manyanswers": [range(6), range(BILLION + 9)],
    "answers": [range(6), range(2002)], "answerrule": [range(6), range(14)], "answerof": [range(6), range(40)],
}


def desk_call(source):
    """One of the desk's own calls; numbers that fit are likely, others come, too."""
    name = source.choice(["pair"] * 4 + ["keep"] * 4 + ["take", "with", "from", "against"] * 2
                         + ["drop", "up", "up", "down", "makeone", "back", "back", "all", "kin", "kin", "families",
                            "sets", "kept", "itsnumber", "itsfirst", "here", "told"])
    if name == "pair":
        most = source.choice([3, 9, 60, 2000, MILLION, MILLION + 3])
        numbers = [source.randint(0, most), source.randint(0, most)]
        if source.random() < 0.1:
            # Of n of 2 and 5 these make a one that's too great.
            numbers = list(source.choice([(1393, 985), (843, 377), (29, 13)]))
    elif name in ("drop", "take", "with", "from", "against"):
        numbers = [source.randint(0, 8)]
    elif name == "kin":
        numbers = [source.randint(0, 7), source.randint(0, 7)]
    elif name == "sets":
        numbers = [source.choice([0, 0, 1, 1, 2]), source.choice([0, 1, 1, 2, 4, 7, 14, MILLION, MILLION + 1])]
    else:
        numbers = []
    return name, numbers


def stage_call(source, n):
    """One of the stages' calls; now and then a number is one of those next to a bound, or a great one."""
    name = source.choice(STAGE_NAMES)
    numbers = [source.choice(near) for near in NEAR.get(name, [])]
    if numbers and source.random() < 0.15:
        numbers[source.randrange(len(numbers))] = source.choice(
            [0, 1, 2, 12, 13, 60, 61, 300, 301, 1000, 2000, MILLION, MILLION + 1, BILLION, BILLION + 1, GREATEST])
    elif name in ("number", "is") and source.random() < 0.5:
        pair = numbered(n, source.randrange(18))
        numbers = list(pair) if max(pair) <= GREATEST else numbers
    elif name in ("isanswer", "answernumber", "answerof") and source.random() < 0.5:
        numbers[0] = source.randrange(5)
        numbers[1] = source.choice([value for value, row in answers_of(numbers[0]) if value <= BILLION])
    return name, numbers


class AgainstTheModel(unittest.TestCase):
    def compare(self, calls, seed, seen):
        """Compares a line's answers with the model's, and counts how each call was answered."""
        model = StageModel()
        expected = [model.ask(name, *numbers) for name, numbers in calls]
        rows = ask(*[" ".join([name, *map(str, numbers)]) for name, numbers in calls])
        for call, row, wanted in zip(calls, rows, expected):
            self.assertEqual(row, wanted, (seed, call))
            outcome = (call[0], min(row[0], 0))
            seen[outcome] = seen.get(outcome, 0) + 1

    def test_the_desks_own_calls(self):
        seen = {}
        for seed in range(400):
            source = Random(seed)
            calls = [("begin", [source.choice(NS + [2, 2, 3, 5, 5, 4])])]
            while len(calls) < 120:
                calls.append(("begin", [source.randint(0, 62)]) if source.random() < 0.01 else desk_call(source))
            self.compare(calls, seed, seen)
        # The lines must come by each answer that a call can give, or they show nothing.
        for outcome in (("begin", -22), ("pair", -22), ("keep", -28), ("drop", -2), ("take", -2), ("with", -2),
                        ("with", -28), ("from", -2), ("from", -33), ("from", 0), ("against", -2), ("against", -28),
                        ("up", -28), ("up", 0), ("down", -16), ("down", 0), ("makeone", -33), ("makeone", 0),
                        ("makeone", -28), ("back", -6), ("kin", -2), ("sets", -22), ("itsnumber", -33),
                        ("itsnumber", 0), ("told", -11)):
            self.assertIn(outcome, seen)

    def test_all_calls_mixed(self):
        seen = {}
        for seed in range(400):
            source = Random(seed)
            n = source.choice(NS + [2, 3, 46, 53, 4])
            calls = [("begin", [n])]
            while len(calls) < 120:
                if source.random() < 0.01:
                    n = source.randint(0, 62)
                    calls.append(("begin", [n]))
                calls.append(desk_call(source) if source.random() < 0.3 else stage_call(source, n if n in NS else 2))
            self.compare(calls[:120], seed, seen)
        self.assertEqual({name for name, refusal in seen}, set(CALLS))
        for name in CALLS:
            self.assertIn((name, 0), seen)
        for name in STAGE_NAMES:
            self.assertIn((name, -11), seen)
            # These four refuse nothing for their numbers, whatever they are.
            if name in NEAR and name not in ("number", "is", "above", "many"):
                self.assertIn((name, -22), seen)
        for name in ("parted", "one", "minus", "number", "least", "withy", "answernumber", "answerof"):
            self.assertIn((name, -33), seen)


if __name__ == "__main__":
    unittest.main()

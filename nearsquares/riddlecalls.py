"""The calls of the stage "Where it's met", of kind c."""

from nearsquares.riddles import answer_by_number, answer_by_rule, answer_from, answers_up_to, is_answer
from nearsquares.telling import NO_SUCH_PAIR, WRONG_NUMBER

LAST_KIND = 4
LAST_NUMBER = 12
LEAST_BY_RULE = 3
GREATEST_ASKED = 1000000000
GREATEST_LISTED = 2000


def answer(desk, c, k):
    if c > LAST_KIND or k < 1 or k > LAST_NUMBER:
        return [WRONG_NUMBER]
    return [0] + answer_by_number(c, k).row


def isanswer(desk, c, v):
    if c > LAST_KIND or v > GREATEST_ASKED:
        return [WRONG_NUMBER]
    return [1 if is_answer(c, v) else 0]


def answernumber(desk, c, v):
    if c > LAST_KIND or v > GREATEST_ASKED:
        return [WRONG_NUMBER]
    if not is_answer(c, v):
        return [NO_SUCH_PAIR]
    return [answer_from(c, v)]


def answerabove(desk, c, b):
    if c > LAST_KIND or b > GREATEST_ASKED:
        return [WRONG_NUMBER]
    k = answer_from(c, b)
    return [k, answer_by_number(c, k).value]


def manyanswers(desk, c, b):
    if c > LAST_KIND or b > GREATEST_ASKED:
        return [WRONG_NUMBER]
    return [len(answers_up_to(c, b))]


def all_answers(desk, c, b):
    if c > LAST_KIND or b > GREATEST_LISTED:
        return [WRONG_NUMBER]
    found = answers_up_to(c, b)
    return [len(found)] + found


def answerrule(desk, c, k):
    if c > LAST_KIND or k < LEAST_BY_RULE or k > LAST_NUMBER:
        return [WRONG_NUMBER]
    return [0, answer_by_rule(c, k)]


def answerof(desk, c, v):
    if c > LAST_KIND or v > GREATEST_ASKED:
        return [WRONG_NUMBER]
    if not is_answer(c, v):
        return [NO_SUCH_PAIR]
    k = answer_from(c, v)
    return [k] + answer_by_number(c, k).row


# The call's number: what answers it, and how many arguments it has.
RIDDLE_CALLS = {
    62: (answer, 2),
    63: (isanswer, 2),
    64: (answernumber, 2),
    65: (answerabove, 2),
    66: (manyanswers, 2),
    67: (all_answers, 2),
    68: (answerrule, 2),
    69: (answerof, 2),
}

"""Answers a list of calls on a new desk."""

from nearsquares.deskcalls import DESK_CALLS
from nearsquares.gapcalls import GAP_CALLS
from nearsquares.movecalls import MOVE_CALLS
from nearsquares.numbercalls import NUMBER_CALLS
from nearsquares.paircalls import PAIR_CALLS
from nearsquares.riddlecalls import RIDDLE_CALLS
from nearsquares.state import Desk
from nearsquares.telling import NOT_BEGUN
from nearsquares.waycalls import WAY_CALLS

BEGIN = 0


def call_of(number):
    """What answers the call, and how many arguments it has."""
    if number in MOVE_CALLS:
        return MOVE_CALLS[number]
    if number in DESK_CALLS:
        return DESK_CALLS[number]
    if number in PAIR_CALLS:
        return PAIR_CALLS[number]
    if number in WAY_CALLS:
        return WAY_CALLS[number]
    if number in NUMBER_CALLS:
        return NUMBER_CALLS[number]
    if number in GAP_CALLS:
        return GAP_CALLS[number]
    return RIDDLE_CALLS[number]


def answered(action, desk, row):
    if len(row) == 0:
        return action(desk)
    if len(row) == 1:
        return action(desk, row[0])
    if len(row) == 2:
        return action(desk, row[0], row[1])
    if len(row) == 3:
        return action(desk, row[0], row[1], row[2])
    return action(desk, row[0], row[1], row[2], row[3])


def answers(calls):
    """For each call how many numbers are answered, then these."""
    desk = Desk()
    told = []
    place = 0
    while place < len(calls):
        number = calls[place]
        call = call_of(number)
        behind = place + 1 + call[1]
        if desk.n is None and number != BEGIN:
            answer = [NOT_BEGUN]
        else:
            answer = answered(call[0], desk, calls[place + 1:behind])
        told.append(len(answer))
        told.extend(answer)
        place = behind
    return told

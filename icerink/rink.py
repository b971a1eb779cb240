"""A line of calls on one rink, and what they answer."""

from icerink.ice import ir_drain, ir_flood, ir_go, ir_machine, ir_minutes, ir_off, ir_run, ir_shave
from icerink.refusals import NOT_AS_TOLD
from icerink.sessions import ir_ask, ir_book, ir_drop, ir_gap
from icerink.skates import ir_bring, ir_hire, ir_pairs, ir_sharpen
from icerink.state import Rink

MOST_BASE = 1000
MOST_EACH = 100
MOST_LEAST = 100000
MOST_ROOM = 500

# How many numbers each call is given, by the call's number.
GIVEN = (4, 2, 2, 1, 1, 1, 1, 1, 1, 2, 1, 2, 2, 1, 3, 0, 1)


class Desk:
    """Keeps the rink, since a start puts a new one in its place."""

    def __init__(self):
        self.rink = Rink(0, 0, 1, 1)


def ir_start(desk, base, each, least, room):
    if base > MOST_BASE or each > MOST_EACH:
        return [NOT_AS_TOLD]
    if least < 1 or least > MOST_LEAST or room < 1 or room > MOST_ROOM:
        return [NOT_AS_TOLD]
    desk.rink = Rink(base, each, least, room)
    return [0]


def call_ice(rink, number, given):
    if number == 1:
        return ir_machine(rink, given[0], given[1])
    if number == 2:
        return ir_run(rink, given[0], given[1])
    if number == 3:
        return ir_flood(rink, given[0])
    if number == 4:
        return ir_shave(rink, given[0])
    if number == 5:
        return ir_drain(rink, given[0])
    if number == 6:
        return ir_minutes(rink, given[0])
    if number == 7:
        return ir_go(rink, given[0])
    return ir_off(rink, given[0])


def call_skates(rink, number, given):
    if number == 9:
        return ir_pairs(rink, given[0], given[1])
    if number == 10:
        return ir_hire(rink, given[0])
    if number == 11:
        return ir_bring(rink, given[0], given[1])
    return ir_sharpen(rink, given[0], given[1])


def call_sessions(rink, number, given):
    if number == 13:
        return ir_gap(rink, given[0])
    if number == 14:
        return ir_ask(rink, given[0], given[1], given[2])
    if number == 15:
        return ir_book(rink)
    return ir_drop(rink, given[0])


def call_desk(desk, number, given):
    if number == 0:
        return ir_start(desk, given[0], given[1], given[2], given[3])
    if number <= 8:
        return call_ice(desk.rink, number, given)
    if number <= 12:
        return call_skates(desk.rink, number, given)
    return call_sessions(desk.rink, number, given)


def answers(calls):
    """For each call how many numbers it answers, then these."""
    desk = Desk()
    told = []
    at = 0
    while at < len(calls):
        number = calls[at]
        behind = at + 1 + GIVEN[number]
        answer = call_desk(desk, number, calls[at + 1:behind])
        told.append(len(answer))
        told.extend(answer)
        at = behind
    return told

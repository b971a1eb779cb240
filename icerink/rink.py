"""A line of calls on one rink, and what they answer."""

from icerink.desk import Desk, ir_again, ir_back, ir_start, ir_state, note_change
from icerink.ice import ir_drain, ir_flood, ir_go, ir_machine, ir_minutes, ir_off, ir_run, ir_shave
from icerink.questions import ir_bears, ir_cheapest, ir_hard, ir_ice, ir_money, ir_power, ir_soon, ir_water
from icerink.sessions import ir_ask, ir_best, ir_book, ir_drop, ir_gap, ir_look, ir_who, ir_would
from icerink.skates import ir_bring, ir_hire, ir_nearest, ir_pairs, ir_sharpen, ir_size
from icerink.state import copy_of_rink

# How many numbers each call is given, by the call's number.
GIVEN = (
    4,
    2, 2, 1, 1, 1, 1, 1, 1,
    2, 1, 2, 2,
    1, 3, 0, 1,
    0, 0, 0, 1,
    1, 0, 1, 1,
    1, 1,
    0, 0, 0, 0,
    0, 0, 0,
)


def change_ice(rink, number, given):
    if number == 1:
        return ir_machine(rink, given[0], given[1])
    if number == 2:
        return ir_run(rink, given[0], given[1])
    if number == 3:
        return ir_flood(rink, given[0])
    if number == 4:
        return ir_shave(rink, given[0])
    if number == 5:
        return ir_drain(rink, given[0])
    if number == 6:
        return ir_minutes(rink, given[0])
    if number == 7:
        return ir_go(rink, given[0])
    return ir_off(rink, given[0])


def change_skates(rink, number, given):
    if number == 9:
        return ir_pairs(rink, given[0], given[1])
    if number == 10:
        return ir_hire(rink, given[0])
    if number == 11:
        return ir_bring(rink, given[0], given[1])
    return ir_sharpen(rink, given[0], given[1])


def change_sessions(rink, number, given):
    if number == 13:
        return ir_gap(rink, given[0])
    if number == 14:
        return ir_ask(rink, given[0], given[1], given[2])
    if number == 15:
        return ir_book(rink)
    return ir_drop(rink, given[0])


def change_rink(rink, number, given):
    if number <= 8:
        return change_ice(rink, number, given)
    if number <= 12:
        return change_skates(rink, number, given)
    return change_sessions(rink, number, given)


def ask_ice(rink, number, given):
    if number == 17:
        return ir_hard(rink)
    if number == 18:
        return ir_soon(rink)
    if number == 19:
        return ir_bears(rink)
    return ir_cheapest(rink, given[0])


def ask_sessions(rink, number, given):
    if number == 21:
        return ir_would(rink, given[0])
    if number == 22:
        return ir_best(rink)
    if number == 23:
        return ir_who(rink, given[0])
    return ir_look(rink, given[0])


def ask_skates(rink, number, given):
    if number == 25:
        return ir_size(rink, given[0])
    return ir_nearest(rink, given[0])


def ask_accounts(rink, number):
    if number == 27:
        return ir_ice(rink)
    if number == 28:
        return ir_power(rink)
    if number == 29:
        return ir_water(rink)
    return ir_money(rink)


def ask_rink(rink, number, given):
    if number <= 20:
        return ask_ice(rink, number, given)
    if number <= 24:
        return ask_sessions(rink, number, given)
    if number <= 26:
        return ask_skates(rink, number, given)
    return ask_accounts(rink, number)


def change_desk(desk, number, given):
    before = copy_of_rink(desk.rink)
    answer = change_rink(desk.rink, number, given)
    if answer[0] >= 0:
        note_change(desk, before)
    return answer


def call_desk(desk, number, given):
    if number == 0:
        return ir_start(desk, given[0], given[1], given[2], given[3])
    if number <= 16:
        return change_desk(desk, number, given)
    if number <= 30:
        return ask_rink(desk.rink, number, given)
    if number == 31:
        return ir_back(desk)
    if number == 32:
        return ir_again(desk)
    return ir_state(desk)


def answers(calls):
    """For each call how many numbers it answers, then these."""
    desk = Desk()
    told = []
    at = 0
    while at < len(calls):
        number = calls[at]
        behind = at + 1 + GIVEN[number]
        answer = call_desk(desk, number, calls[at + 1:behind])
        told.append(len(answer))
        told.extend(answer)
        at = behind
    return told

"""The calls on machines, water, ice, minutes and skaters.

Each call answers a list: its number, then what else it answers. A refused
call answers its refusal alone, and is refused before anything is changed.
"""

from icerink.refusals import ALREADY_SO, IN_USE, NO_ROOM, NOT_AS_TOLD, NOT_HARD, NOT_THERE, TOO_FEW, TOO_LATE
from icerink.state import Machine

MOST_MACHINES = 6
MOST_COLD = 5000
MOST_COST = 1000
MOST_LAID = 1000000
MOST_MINUTES = 1440
LAST_MINUTE = 50000


def cold_of(rink):
    return sum([machine.cold for machine in rink.machines if machine.runs == 1])


def cost_of(rink):
    return sum([machine.cost for machine in rink.machines if machine.runs == 1])


def heat_for(rink, skaters):
    return rink.base + skaters * rink.each


def is_hard(rink):
    return rink.water == 0 and rink.ice >= rink.least


def ir_machine(rink, cold, cost):
    if cold < 1 or cold > MOST_COLD or cost > MOST_COST:
        return [NOT_AS_TOLD]
    if len(rink.machines) == MOST_MACHINES:
        return [NO_ROOM]
    rink.machines.append(Machine(cold, cost))
    return [len(rink.machines) - 1]


def ir_run(rink, k, on):
    if k >= len(rink.machines):
        return [NOT_THERE]
    if on > 1:
        return [NOT_AS_TOLD]
    machine = rink.machines[k]
    if machine.runs == on:
        return [ALREADY_SO]
    machine.runs = on
    return [cold_of(rink)]


def ir_flood(rink, n):
    if n == 0:
        return [NOT_AS_TOLD]
    if rink.skaters > 0:
        return [IN_USE]
    if rink.laid + n > MOST_LAID:
        return [NO_ROOM]
    rink.laid += n
    rink.water += n
    return [rink.water]


def ir_shave(rink, n):
    if n == 0:
        return [NOT_AS_TOLD]
    if rink.skaters > 0:
        return [IN_USE]
    if rink.ice < n:
        return [TOO_FEW]
    rink.ice -= n
    rink.shaved += n
    return [rink.ice]


def ir_drain(rink, n):
    if n == 0:
        return [NOT_AS_TOLD]
    if rink.water < n:
        return [TOO_FEW]
    rink.water -= n
    rink.drained += n
    return [rink.water]


def freeze_or_melt(rink, cold):
    heat = heat_for(rink, rink.skaters)
    if cold > heat:
        frozen = min(cold - heat, rink.water)
        rink.ice += frozen
        rink.water -= frozen
    elif cold < heat:
        melted = min(heat - cold, rink.ice)
        rink.ice -= melted
        rink.water += melted


def send_all_off(rink):
    rink.sent_off += rink.skaters
    rink.skaters = 0


def pass_minute(rink, cold, cost):
    freeze_or_melt(rink, cold)
    rink.spent += cost
    rink.minute += 1
    if not is_hard(rink):
        send_all_off(rink)


def ir_minutes(rink, n):
    if n < 1 or n > MOST_MINUTES:
        return [NOT_AS_TOLD]
    if rink.minute + n > LAST_MINUTE:
        return [TOO_LATE]
    # No machine is switched while minutes go by, so these are the same for each of them.
    cold = cold_of(rink)
    cost = cost_of(rink)
    for passed in range(n):
        pass_minute(rink, cold, cost)
    return [rink.minute, rink.ice, rink.water, rink.skaters]


def ir_go(rink, n):
    if n == 0:
        return [NOT_AS_TOLD]
    if not is_hard(rink):
        return [NOT_HARD]
    if rink.skaters + n > rink.room:
        return [NO_ROOM]
    rink.skaters += n
    return [rink.skaters]


def ir_off(rink, n):
    if n == 0:
        return [NOT_AS_TOLD]
    if rink.skaters < n:
        return [TOO_FEW]
    rink.skaters -= n
    return [rink.skaters]

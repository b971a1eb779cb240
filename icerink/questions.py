"""The calls that only ask: of the ice, the machines, the water and the money.

They answer as those in icerink.ice do, and change nothing.
"""

from icerink.ice import cold_of, cost_of, heat_for, is_hard
from icerink.refusals import NOT_AS_TOLD, OUT_OF_REACH

MOST_MINUTES_AHEAD = 1440
MOST_SKATERS = 500


def minutes_till_hard(rink):
    """None if it never gets hard with the machines running as they do."""
    if is_hard(rink):
        return 0
    freezes = cold_of(rink) - heat_for(rink, rink.skaters)
    if freezes <= 0 or rink.ice + rink.water < rink.least:
        return None
    # It's hard when the last water is frozen; a rest freezes in a minute of its own.
    return (rink.water + freezes - 1) // freezes


def cheapest_machines(machines, heat):
    """Bits (bit k stands for machine k), cold and cost of the set; None if there's none."""
    cheapest = None
    for bits in range(1 << len(machines)):
        chosen = [machine for k, machine in enumerate(machines) if ((bits >> k) & 1) == 1]
        cold = sum([machine.cold for machine in chosen])
        cost = sum([machine.cost for machine in chosen])
        # The bits rise, so of like costs the first is the least.
        if cold >= heat and (cheapest is None or cost < cheapest[2]):
            cheapest = (bits, cold, cost)
    return cheapest


def ir_hard(rink):
    dry = 1 if rink.water == 0 else 0
    enough = 1 if rink.ice >= rink.least else 0
    hard = 1 if is_hard(rink) else 0
    return [hard, dry, enough]


def ir_soon(rink):
    minutes = minutes_till_hard(rink)
    if minutes is None or minutes > MOST_MINUTES_AHEAD:
        return [OUT_OF_REACH]
    return [minutes]


def ir_bears(rink):
    cold = cold_of(rink)
    if cold < rink.base:
        return [OUT_OF_REACH]
    if rink.each == 0:
        return [rink.room]
    return [min(rink.room, (cold - rink.base) // rink.each)]


def ir_cheapest(rink, n):
    if n > MOST_SKATERS:
        return [NOT_AS_TOLD]
    cheapest = cheapest_machines(rink.machines, heat_for(rink, n))
    if cheapest is None:
        return [OUT_OF_REACH]
    return [cheapest[2], cheapest[0], cheapest[1]]


def ir_ice(rink):
    return [rink.ice, rink.water, rink.skaters, rink.minute]


def ir_power(rink):
    return [cold_of(rink), heat_for(rink, rink.skaters), cost_of(rink)]


def ir_water(rink):
    return [rink.laid, rink.ice, rink.water, rink.shaved, rink.drained]


def ir_money(rink):
    fees = [session.fee for session in rink.sessions if session.booked == 1]
    return [rink.spent, sum(fees), len(fees), rink.sent_off]

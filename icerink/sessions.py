"""The calls on sessions, answering as those in icerink.ice do.

A set of sessions is kept as bits: bit k stands for session k.
"""

from icerink.refusals import IN_USE, NO_ROOM, NONE_SUCH, NOT_AS_TOLD, NOT_THERE
from icerink.state import Session

MOST_SESSIONS = 8
MOST_GAP = 120
MOST_FEE = 100000
DAY_END = 1440


def two_fit(one, other, gap):
    return one.begin >= other.end + gap or other.begin >= one.end + gap


def earlier_that_clash(sessions, k, gap):
    """As bits, the sessions of a lower number that don't fit with session k."""
    bits = 0
    for other in range(k):
        if not two_fit(sessions[other], sessions[k], gap):
            bits = bits | (1 << other)
    return bits


def days_that_fit(sessions, gap):
    """All sets that fit, each as its bits and its fees, the bits rising."""
    days = [(0, 0)]
    for k, session in enumerate(sessions):
        clash = earlier_that_clash(sessions, k, gap)
        # Bit k is above all bits so far, so what is put behind keeps the bits rising.
        days = days + [(day[0] | (1 << k), day[1] + session.fee) for day in days if (day[0] & clash) == 0]
    return days


def fits(sessions, gap, bits):
    clashes = [earlier_that_clash(sessions, k, gap) & bits for k in range(len(sessions)) if ((bits >> k) & 1) == 1]
    return not any(clashes)


def fees_of(sessions, bits):
    return sum([session.fee for k, session in enumerate(sessions) if ((bits >> k) & 1) == 1])


def best_day(sessions, gap):
    best = (0, 0)
    for day in days_that_fit(sessions, gap):
        # The bits rise, so of like fees the first is the least.
        if day[1] > best[1]:
            best = day
    return best


def ir_gap(rink, n):
    if n > MOST_GAP:
        return [NOT_AS_TOLD]
    if any([session.booked == 1 for session in rink.sessions]):
        return [IN_USE]
    before = rink.gap
    rink.gap = n
    return [before]


def ir_ask(rink, begin, end, fee):
    if end <= begin or end > DAY_END or fee > MOST_FEE:
        return [NOT_AS_TOLD]
    if len(rink.sessions) == MOST_SESSIONS:
        return [NO_ROOM]
    rink.sessions.append(Session(begin, end, fee))
    return [len(rink.sessions) - 1]


def ir_book(rink):
    if len(rink.sessions) == 0:
        return [NONE_SUCH]
    best = best_day(rink.sessions, rink.gap)
    for k in range(len(rink.sessions)):
        session = rink.sessions[k]
        session.booked = (best[0] >> k) & 1
    return [best[1], best[0]]


def ir_drop(rink, k):
    if k >= len(rink.sessions):
        return [NOT_THERE]
    session = rink.sessions[k]
    if session.booked == 0:
        return [NONE_SUCH]
    session.booked = 0
    return [session.fee]


def ir_would(rink, asks):
    if asks >= 1 << len(rink.sessions):
        return [NOT_AS_TOLD]
    fit = 1 if fits(rink.sessions, rink.gap, asks) else 0
    return [fit, fees_of(rink.sessions, asks)]


def ir_best(rink):
    if len(rink.sessions) == 0:
        return [NONE_SUCH]
    best = best_day(rink.sessions, rink.gap)
    return [best[1], best[0]]


def ir_who(rink, minute):
    if minute >= DAY_END:
        return [NOT_AS_TOLD]
    for k, session in enumerate(rink.sessions):
        # Booked sessions fit, so no other one has the minute too.
        if session.booked == 1 and session.begin <= minute and minute < session.end:
            return [k, session.end - minute]
    return [NONE_SUCH]


def ir_look(rink, k):
    if k >= len(rink.sessions):
        return [NOT_THERE]
    session = rink.sessions[k]
    return [session.fee, session.begin, session.end, session.booked]

"""All that a rink keeps between calls."""

SIZES = 10


class Machine:
    def __init__(self, cold, cost):
        self.cold = cold
        self.cost = cost
        self.runs = 0


class Pairs:
    """The pairs of skates of one size."""

    def __init__(self):
        self.sharp = 0
        self.blunt = 0
        self.hired = 0


class Session:
    def __init__(self, begin, end, fee):
        self.begin = begin
        self.end = end
        self.fee = fee
        self.booked = 0


class Rink:
    def __init__(self, base, each, least, room):
        self.base = base
        self.each = each
        self.least = least
        self.room = room
        self.machines = []
        self.ice = 0
        self.water = 0
        self.laid = 0
        self.shaved = 0
        self.drained = 0
        self.skaters = 0
        self.sent_off = 0
        self.minute = 0
        self.spent = 0
        self.sizes = [Pairs() for size in range(SIZES)]
        self.gap = 0
        self.sessions = []


def copy_of_machine(machine):
    copied = Machine(machine.cold, machine.cost)
    copied.runs = machine.runs
    return copied


def copy_of_pairs(pairs):
    copied = Pairs()
    copied.sharp = pairs.sharp
    copied.blunt = pairs.blunt
    copied.hired = pairs.hired
    return copied


def copy_of_session(session):
    copied = Session(session.begin, session.end, session.fee)
    copied.booked = session.booked
    return copied


def copy_of_rink(rink):
    """A rink that shares nothing with the first that a call could change."""
    copied = Rink(rink.base, rink.each, rink.least, rink.room)
    copied.machines = [copy_of_machine(machine) for machine in rink.machines]
    copied.ice = rink.ice
    copied.water = rink.water
    copied.laid = rink.laid
    copied.shaved = rink.shaved
    copied.drained = rink.drained
    copied.skaters = rink.skaters
    copied.sent_off = rink.sent_off
    copied.minute = rink.minute
    copied.spent = rink.spent
    copied.sizes = [copy_of_pairs(pairs) for pairs in rink.sizes]
    copied.gap = rink.gap
    copied.sessions = [copy_of_session(session) for session in rink.sessions]
    return copied

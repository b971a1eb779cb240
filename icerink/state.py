"""All that a rink keeps between calls."""

SIZES = 10


class Machine:
    def __init__(self, cold, cost):
        self.cold = cold
        self.cost = cost
        self.runs = 0


class Pairs:
    """The pairs of skates of one size."""

    def __init__(self):
        self.sharp = 0
        self.blunt = 0
        self.hired = 0


class Session:
    def __init__(self, begin, end, fee):
        self.begin = begin
        self.end = end
        self.fee = fee
        self.booked = 0


class Rink:
    def __init__(self, base, each, least, room):
        self.base = base
        self.each = each
        self.least = least
        self.room = room
        self.machines = []
        self.ice = 0
        self.water = 0
        self.laid = 0
        self.shaved = 0
        self.drained = 0
        self.skaters = 0
        self.sent_off = 0
        self.minute = 0
        self.spent = 0
        self.sizes = [Pairs() for size in range(SIZES)]
        self.gap = 0
        self.sessions = []

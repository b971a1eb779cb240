"""The words once more, written another way: stretches of minutes by reckoning, sets by trying all of them."""

import functools

from tests.test_ice_asked import brute_cheapest
from tests.test_sessions import all_fit, brute_best


@functools.lru_cache(maxsize=None)
def best_of(gap, asked):
    return brute_best(gap, asked)


class Model:
    """Without taking back and doing again, which Retold below adds."""

    def __init__(self, base, each, least, room):
        self.base, self.each, self.least, self.room = base, each, least, room
        self.machines, self.costs, self.running = [], [], set()
        self.ice = self.water = self.on = self.minute = self.gap = self.spent = self.sent = 0
        self.floods, self.shavings, self.drainings = [], [], []
        self.skates = {k: [] for k in range(10)}
        self.asked, self.booked = [], set()

    def hard(self):
        return not self.water and self.ice >= self.least

    def machine(self, cold, cost):
        if not 1 <= cold <= 5000 or cost > 1000:
            return [-22]
        if len(self.machines) > 5:
            return [-28]
        self.machines.append(cold)
        self.costs.append(cost)
        return [len(self.machines) - 1]

    def cold(self):
        return sum(self.machines[k] for k in self.running)

    def cost(self):
        return sum(self.costs[k] for k in self.running)

    def run(self, k, on):
        if k >= len(self.machines):
            return [-2]
        if on not in (0, 1):
            return [-22]
        if (k in self.running) == bool(on):
            return [-17]
        self.running ^= {k}
        return [self.cold()]

    def flood(self, n):
        if not n:
            return [-22]
        if self.on:
            return [-16]
        if sum(self.floods) + n > 1000000:
            return [-28]
        self.floods.append(n)
        self.water += n
        return [self.water]

    def shave(self, n):
        if not n:
            return [-22]
        if self.on:
            return [-16]
        if n > self.ice:
            return [-12]
        self.ice -= n
        self.shavings.append(n)
        return [self.ice]

    def drain(self, n):
        if not n:
            return [-22]
        if n > self.water:
            return [-12]
        self.water -= n
        self.drainings.append(n)
        return [self.water]

    def stretch(self, n):
        moved = (self.cold() - self.base - self.on * self.each) * n
        moved = max(-self.ice, min(self.water, moved))
        self.ice, self.water = self.ice + moved, self.water - moved

    def minutes(self, n):
        if not 1 <= n <= 1440:
            return [-22]
        if self.minute + n > 50000:
            return [-75]
        # Skaters are on hard ice: either nothing melts for them ever, or the first minute makes it soft.
        self.stretch(1)
        if not self.hard():
            self.sent, self.on = self.sent + self.on, 0
        self.stretch(n - 1)
        self.minute += n
        self.spent += n * self.cost()
        return [self.minute, self.ice, self.water, self.on]

    def go(self, n):
        if not n:
            return [-22]
        if not self.hard():
            return [-13]
        if self.on + n > self.room:
            return [-28]
        self.on += n
        return [self.on]

    def off(self, n):
        if not n:
            return [-22]
        if n > self.on:
            return [-12]
        self.on -= n
        return [self.on]

    def pairs(self, k, n):
        if k not in self.skates:
            return [-2]
        if not n:
            return [-22]
        if len(self.skates[k]) + n > 100:
            return [-28]
        self.skates[k] += ["sharp"] * n
        return [len(self.skates[k])]

    def turn(self, k, was, becomes):
        self.skates[k][self.skates[k].index(was)] = becomes

    def hire(self, k):
        if k not in self.skates:
            return [-2]
        if "sharp" not in self.skates[k]:
            return [-12]
        self.turn(k, "sharp", "out")
        return [self.skates[k].count("sharp")]

    def bring(self, k, blunt):
        if k not in self.skates:
            return [-2]
        if blunt not in (0, 1):
            return [-22]
        if "out" not in self.skates[k]:
            return [-6]
        self.turn(k, "out", ("sharp", "blunt")[blunt])
        return [self.skates[k].count("out")]

    def sharpen(self, k, n):
        if k not in self.skates:
            return [-2]
        if not n:
            return [-22]
        if self.skates[k].count("blunt") < n:
            return [-12]
        for pair in range(n):
            self.turn(k, "blunt", "sharp")
        return [self.skates[k].count("sharp")]

    def set_gap(self, n):
        if n > 120:
            return [-22]
        if self.booked:
            return [-16]
        was, self.gap = self.gap, n
        return [was]

    def ask(self, begin, end, fee):
        if not begin < end <= 1440 or fee > 100000:
            return [-22]
        if len(self.asked) > 7:
            return [-28]
        self.asked.append((begin, end, fee))
        return [len(self.asked) - 1]

    def book(self):
        if not self.asked:
            return [-6]
        fees, bits = best_of(self.gap, tuple(self.asked))
        self.booked = {k for k in range(8) if bits >> k & 1}
        return [fees, bits]

    def drop(self, k):
        if k >= len(self.asked):
            return [-2]
        if k not in self.booked:
            return [-6]
        self.booked.remove(k)
        return [self.asked[k][2]]

    def how_hard(self):
        dry, enough = int(not self.water), int(self.ice >= self.least)
        return [int(self.hard()), dry, enough]

    def soon(self):
        ice, water, minutes = self.ice, self.water, 0
        while (water or ice < self.least) and minutes <= 1440:
            moved = max(-ice, min(water, self.cold() - self.base - self.on * self.each))
            ice, water, minutes = ice + moved, water - moved, minutes + 1
            if not moved:
                return [-33]
        return [minutes] if minutes <= 1440 else [-33]

    def bears(self):
        borne = [n for n in range(self.room + 1) if self.base + n * self.each <= self.cold()]
        return [max(borne)] if borne else [-33]

    def cheapest(self, n):
        if n > 500:
            return [-22]
        return brute_cheapest(list(zip(self.machines, self.costs)), self.base + n * self.each)

    def would(self, bits):
        named = [k for k in range(32) if bits >> k & 1]
        if named and named[-1] >= len(self.asked):
            return [-22]
        chosen = [self.asked[k] for k in named]
        return [int(all_fit(self.gap, chosen)), sum(fee for begin, end, fee in chosen)]

    def best(self):
        return best_of(self.gap, tuple(self.asked)) if self.asked else [-6]

    def who(self, minute):
        if minute > 1439:
            return [-22]
        for k in self.booked:
            minutes = range(*self.asked[k][:2])
            if minute in minutes:
                return [k, len(minutes) - minutes.index(minute)]
        return [-6]

    def look(self, k):
        if k >= len(self.asked):
            return [-2]
        begin, end, fee = self.asked[k]
        return [fee, begin, end, int(k in self.booked)]

    def size(self, k):
        if k not in self.skates:
            return [-2]
        pairs = self.skates[k]
        return [len(pairs), pairs.count("sharp"), pairs.count("blunt"), pairs.count("out")]

    def nearest(self, k):
        if k not in self.skates:
            return [-2]
        sharp = [size for size in self.skates if "sharp" in self.skates[size]]
        return [min(sharp, key=lambda size: (abs(size - k), -size))] if sharp else [-33]

    def ice_told(self):
        return [self.ice, self.water, self.on, self.minute]

    def power(self):
        return [self.cold(), self.base + self.on * self.each, self.cost()]

    def water_told(self):
        return [sum(self.floods), self.ice, self.water, sum(self.shavings), sum(self.drainings)]

    def money(self):
        return [self.spent, sum(self.asked[k][2] for k in self.booked), len(self.booked), self.sent]

    def call(self, number, given):
        return (None, self.machine, self.run, self.flood, self.shave, self.drain, self.minutes, self.go, self.off,
                self.pairs, self.hire, self.bring, self.sharpen, self.set_gap, self.ask, self.book, self.drop,
                self.how_hard, self.soon, self.bears, self.cheapest, self.would, self.best, self.who, self.look,
                self.size, self.nearest, self.ice_told, self.power, self.water_told, self.money)[number](*given)


class Retold:
    """Takes a change back by making all that were made ahead of it once more, from the start on."""

    def __init__(self):
        self.start(0, 0, 1, 1)

    def start(self, *given):
        base, each, least, room = given
        if base > 1000 or each > 100 or not 1 <= least <= 100000 or not 1 <= room <= 500:
            return [-22]
        self.given, self.model = given, Model(*given)
        self.made, self.undone, self.fixed = [], [], 0
        return [0]

    def back(self):
        if len(self.made) == self.fixed:
            return [-2]
        self.undone.append(self.made.pop())
        self.model = Model(*self.given)
        for number, given in self.made:
            self.model.call(number, given)
        return [len(self.made) - self.fixed]

    def again(self):
        if not self.undone:
            return [-2]
        self.made.append(self.undone.pop())
        self.model.call(*self.made[-1])
        return [len(self.undone)]

    def state(self):
        model = self.model
        pairs = sum(len(pairs) for pairs in model.skates.values())
        return [model.minute, len(model.machines), len(model.asked), pairs, len(self.made) - self.fixed,
                len(self.undone)]

    def call(self, number, given):
        if number in (0, 31, 32, 33):
            return {0: self.start, 31: self.back, 32: self.again, 33: self.state}[number](*given)
        answer = self.model.call(number, given)
        if number <= 16 and answer[0] >= 0:
            self.made.append((number, given))
            self.undone = []
            self.fixed = max(self.fixed, len(self.made) - 30)
        return answer

"""Long lines of calls, held against a model written another way, and against what always holds."""

import itertools
import random
import unittest

from icerink.rink import Desk, answers, call_desk
from tests.helper import TOP, parted
from tests.test_sessions import brute_best


class Model:
    """The words once more: whole stretches of minutes by reckoning, sets of sessions by trying all."""

    def __init__(self):
        self.start(0, 0, 1, 1)

    def start(self, base, each, least, room):
        if base > 1000 or each > 100 or not 1 <= least <= 100000 or not 1 <= room <= 500:
            return [-22]
        self.base, self.each, self.least, self.room = base, each, least, room
        self.machines, self.running = [], set()
        self.ice = self.water = self.laid = self.on = self.minute = self.gap = 0
        self.skates = {k: [] for k in range(10)}
        self.asked, self.booked = [], set()
        return [0]

    def hard(self):
        return not self.water and self.ice >= self.least

    def machine(self, cold, cost):
        if not 1 <= cold <= 5000 or cost > 1000:
            return [-22]
        if len(self.machines) > 5:
            return [-28]
        self.machines.append(cold)
        return [len(self.machines) - 1]

    def cold(self):
        return sum(self.machines[k] for k in self.running)

    def run(self, k, on):
        if k >= len(self.machines):
            return [-2]
        if on not in (0, 1):
            return [-22]
        if (k in self.running) == bool(on):
            return [-17]
        self.running ^= {k}
        return [self.cold()]

    def flood(self, n):
        if not n:
            return [-22]
        if self.on:
            return [-16]
        if self.laid + n > 1000000:
            return [-28]
        self.laid, self.water = self.laid + n, self.water + n
        return [self.water]

    def shave(self, n):
        if not n:
            return [-22]
        if self.on:
            return [-16]
        if n > self.ice:
            return [-12]
        self.ice -= n
        return [self.ice]

    def drain(self, n):
        if not n:
            return [-22]
        if n > self.water:
            return [-12]
        self.water -= n
        return [self.water]

    def stretch(self, n):
        moved = (self.cold() - self.base - self.on * self.each) * n
        moved = max(-self.ice, min(self.water, moved))
        self.ice, self.water = self.ice + moved, self.water - moved

    def minutes(self, n):
        if not 1 <= n <= 1440:
            return [-22]
        if self.minute + n > 50000:
            return [-75]
        # Skaters are on hard ice: either nothing melts for them ever, or the first minute makes it soft.
        self.stretch(1)
        self.on = self.on if self.hard() else 0
        self.stretch(n - 1)
        self.minute += n
        return [self.minute, self.ice, self.water, self.on]

    def go(self, n):
        if not n:
            return [-22]
        if not self.hard():
            return [-13]
        if self.on + n > self.room:
            return [-28]
        self.on += n
        return [self.on]

    def off(self, n):
        if not n:
            return [-22]
        if n > self.on:
            return [-12]
        self.on -= n
        return [self.on]

    def pairs(self, k, n):
        if k not in self.skates:
            return [-2]
        if not n:
            return [-22]
        if len(self.skates[k]) + n > 100:
            return [-28]
        self.skates[k] += ["sharp"] * n
        return [len(self.skates[k])]

    def turn(self, k, was, becomes):
        self.skates[k][self.skates[k].index(was)] = becomes

    def hire(self, k):
        if k not in self.skates:
            return [-2]
        if "sharp" not in self.skates[k]:
            return [-12]
        self.turn(k, "sharp", "out")
        return [self.skates[k].count("sharp")]

    def bring(self, k, blunt):
        if k not in self.skates:
            return [-2]
        if blunt not in (0, 1):
            return [-22]
        if "out" not in self.skates[k]:
            return [-6]
        self.turn(k, "out", ("sharp", "blunt")[blunt])
        return [self.skates[k].count("out")]

    def sharpen(self, k, n):
        if k not in self.skates:
            return [-2]
        if not n:
            return [-22]
        if self.skates[k].count("blunt") < n:
            return [-12]
        for pair in range(n):
            self.turn(k, "blunt", "sharp")
        return [self.skates[k].count("sharp")]

    def set_gap(self, n):
        if n > 120:
            return [-22]
        if self.booked:
            return [-16]
        was, self.gap = self.gap, n
        return [was]

    def ask(self, begin, end, fee):
        if not begin < end <= 1440 or fee > 100000:
            return [-22]
        if len(self.asked) > 7:
            return [-28]
        self.asked.append((begin, end, fee))
        return [len(self.asked) - 1]

    def book(self):
        if not self.asked:
            return [-6]
        fees, bits = brute_best(self.gap, self.asked)
        self.booked = {k for k in range(8) if bits >> k & 1}
        return [fees, bits]

    def drop(self, k):
        if k >= len(self.asked):
            return [-2]
        if k not in self.booked:
            return [-6]
        self.booked.remove(k)
        return [self.asked[k][2]]

    def call(self, number, given):
        return (self.start, self.machine, self.run, self.flood, self.shave, self.drain, self.minutes, self.go,
                self.off, self.pairs, self.hire, self.bring, self.sharpen, self.set_gap, self.ask, self.book,
                self.drop)[number](*given)


def few(source, most):
    """Mostly 1 to most, now and then 0, one beyond, or anything."""
    return source.choice([source.randint(1, most)] * 12 + [0, most, most + 1, source.randint(0, TOP), TOP])


def start_numbers(source):
    return [source.choice((0, 3, 20, 1000, 1001)), source.choice((0, 1, 2, 7, 100)),
            source.choice((1, 5, 60, 200, 0)), source.choice((1, 4, 30, 500))]


def random_call(source):
    number = source.choice([1, 2, 2, 3, 3, 4, 5, 6, 6, 6, 7, 7, 7, 8, 9, 10, 10, 11, 12, 13, 14, 15, 16] * 30 + [0])
    k = source.choice([0, 1, 2, 3, source.randrange(12), TOP])
    if number == 0:
        return [0] + start_numbers(source)
    if number == 1:
        return [1, source.choice((few(source, 60), few(source, 5000))), few(source, 1000)]
    if number in (2, 11):
        return [number, k, source.choice((0, 1, 1, 1, 0, 2))]
    if number in (9, 12):
        return [number, k, few(source, 6)]
    if number in (10, 16):
        return [number, k]
    if number == 14:
        begin = source.randrange(1441)
        return [14, begin, begin + few(source, 200), few(source, 100000)]
    if number == 15:
        return [15]
    most = {3: (300, 9000), 4: (20, 20), 5: (40, 400), 6: (3, 1440, 1440), 7: (5, 40), 8: (3, 9), 13: (60, 120)}[number]
    return [number, few(source, source.choice(most))]


def line_of_calls(seed, count):
    source = random.Random(seed)
    calls = [[0] + start_numbers(source), [0, 3, 2, source.choice((1, 20, 80)), source.choice((1, 8, 60))]]
    return calls + [random_call(source) for k in range(count - 2)]


def kept(thing):
    """All that an object keeps, as plain values."""
    if isinstance(thing, list):
        return [kept(part) for part in thing]
    if isinstance(thing, int):
        return thing
    return {name: kept(part) for name, part in vars(thing).items()}


class Walks(unittest.TestCase):
    def test_as_the_model_answers(self):
        seen = set()
        for seed in range(90):
            calls = line_of_calls(seed, 1000 if seed < 30 else 300)
            model = Model()
            told = parted(answers(list(itertools.chain(*calls))))
            for call, answer in zip(calls, told, strict=True):
                self.assertEqual(answer, model.call(call[0], call[1:]), (seed, call))
                seen.add((call[0], answer[0] if answer[0] < 0 else 0))
        due = {(0, -22), (1, -22), (1, -28), (2, -2), (2, -22), (2, -17), (3, -22), (3, -16), (3, -28), (4, -22),
               (4, -16), (4, -12), (5, -22), (5, -12), (6, -22), (6, -75), (7, -22), (7, -13), (7, -28), (8, -22),
               (8, -12), (9, -2), (9, -22), (9, -28), (10, -2), (10, -12), (11, -2), (11, -22), (11, -6), (12, -2),
               (12, -22), (12, -12), (13, -22), (13, -16), (14, -22), (14, -28), (15, -6), (16, -2), (16, -6)}
        self.assertEqual(seen, due | {(number, 0) for number in range(17)})

    def holds(self, rink):
        self.assertEqual(rink.laid, rink.ice + rink.water + rink.shaved + rink.drained)
        self.assertGreaterEqual(min(rink.ice, rink.water, rink.shaved, rink.drained, rink.skaters), 0)
        if rink.skaters:
            self.assertTrue(rink.water == 0 and rink.ice >= rink.least)
            self.assertLessEqual(rink.skaters, rink.room)
        for pairs in rink.sizes:
            self.assertGreaterEqual(min(pairs.sharp, pairs.blunt, pairs.hired), 0)
            self.assertLessEqual(pairs.sharp + pairs.blunt + pairs.hired, 100)
        booked = [session for session in rink.sessions if session.booked]
        for one, other in itertools.combinations(booked, 2):
            self.assertTrue(one.begin - other.end >= rink.gap or other.begin - one.end >= rink.gap)

    def test_refusals_change_nothing_and_what_always_holds(self):
        for seed in range(200, 240):
            desk = Desk()
            for call in line_of_calls(seed, 400):
                ahead = kept(desk)
                answer = call_desk(desk, call[0], call[1:])
                if answer[0] < 0:
                    self.assertEqual(len(answer), 1)
                    self.assertEqual(kept(desk), ahead, call)
                self.holds(desk.rink)

    def test_what_is_spent_and_sent_off_minute_by_minute(self):
        for seed in range(300, 320):
            desk = Desk()
            for call in line_of_calls(seed, 300):
                ahead = kept(desk)["rink"]
                answer = call_desk(desk, call[0], call[1:])
                rink = desk.rink
                if answer[0] < 0 or call[0] == 0:
                    continue
                gone = call[1] if call[0] == 6 else 0
                cost = sum(machine["cost"] for machine in ahead["machines"] if machine["runs"])
                self.assertEqual(rink.spent, ahead["spent"] + gone * cost)
                self.assertEqual(rink.minute, ahead["minute"] + gone)
                sent = ahead["skaters"] - rink.skaters if gone else 0
                self.assertEqual(rink.sent_off, ahead["sent_off"] + sent)

"""What holds, over lines of many calls in mixed order."""

import copy
import itertools
import unittest

from icerink.desk import Desk
from icerink.rink import call_desk
from tests.lines import line_of_calls

HARD, SOON, BEARS, CHEAPEST, WOULD, BEST, LOOK, SIZE = 17, 18, 19, 20, 21, 22, 24, 25
ICE, POWER, WATER, MONEY, BACK, AGAIN, STATE = 27, 28, 29, 30, 31, 32, 33
GO, MINUTES = 7, 6


def kept(thing):
    """All that an object keeps, as plain values."""
    if isinstance(thing, list):
        return [kept(part) for part in thing]
    if isinstance(thing, int):
        return thing
    return {name: kept(part) for name, part in vars(thing).items()}


class Walk:
    """A line of calls, one behind another; where it is can be left and tried out on a copy."""

    def __init__(self, seed, count):
        self.desk = Desk()
        self.line = line_of_calls(seed, count)
        self.start = None

    def __iter__(self):
        for call in self.line:
            answer = call_desk(self.desk, call[0], call[1:])
            if call[0] == 0 and answer == [0]:
                self.start = call[1:]
            if self.start:
                yield call, answer

    def tried(self, *calls):
        """What each of these would answer, without anything being changed."""
        desk = Desk()
        desk.rink = copy.deepcopy(self.desk.rink)
        return [call_desk(desk, call[0], list(call[1:])) for call in calls]

    def asked(self, *call):
        return call_desk(self.desk, call[0], list(call[1:]))


def steps(seed, count, each=1):
    """Each call of a line but those skipped, with the walk behind it and its answer."""
    walk = Walk(seed, count)
    for at, (call, answer) in enumerate(walk):
        if at % each == 0:
            yield walk, call, answer


class WhatHolds(unittest.TestCase):
    def test_each_litre(self):
        for seed in range(400, 420):
            for walk, call, answer in steps(seed, 400):
                water = walk.asked(WATER)
                self.assertEqual(water[0], sum(water[1:]))
                self.assertLessEqual(water[0], 1000000)
                self.assertGreaterEqual(min(water), 0)

    def test_nobody_on_soft_ice(self):
        skated = 0
        for seed in range(420, 440):
            for walk, call, answer in steps(seed, 400):
                on = walk.asked(ICE)[2]
                if on:
                    skated += 1
                    self.assertEqual(walk.asked(HARD), [1, 1, 1])
                    self.assertLessEqual(on, walk.start[3])
        self.assertGreater(skated, 200)

    def test_the_cheapest(self):
        for seed in range(440, 446):
            for walk, call, answer in steps(seed, 300, 15):
                base, each = walk.start[:2]
                machines = walk.desk.rink.machines
                sets = [[one for k, one in enumerate(machines) if bits >> k & 1] for bits in range(1 << len(machines))]
                for n in (0, 1, 5, 40, 500):
                    keep = [(sum(one.cost for one in chosen), bits, sum(one.cold for one in chosen))
                            for bits, chosen in enumerate(sets)
                            if sum(one.cold for one in chosen) >= base + n * each]
                    self.assertEqual(walk.asked(CHEAPEST, n), list(min(keep)) if keep else [-33])

    def test_the_best_day_and_booked_sessions_fit(self):
        booked_at_all = 0
        for seed in range(450, 456):
            for walk, call, answer in steps(seed, 400, 10):
                count = walk.asked(STATE)[2]
                if count == 0:
                    continue
                days = [(bits, walk.asked(WOULD, bits)) for bits in range(1 << count)]
                fees, bits = walk.asked(BEST)
                most = max(day[1] for bits, day in days if day[0])
                self.assertEqual((fees, bits), (most, min(bits for bits, day in days if day == [1, most])))
                booked = [k for k in range(count) if walk.asked(LOOK, k)[3]]
                self.assertEqual(walk.asked(WOULD, sum(1 << k for k in booked))[0], 1)
                booked_at_all += len(booked)
        self.assertGreater(booked_at_all, 20)

    def test_booked_sessions_fit_as_they_stand(self):
        for seed in range(460, 480):
            for walk, call, answer in steps(seed, 400):
                rink = walk.desk.rink
                booked = [session for session in rink.sessions if session.booked]
                for one, other in itertools.combinations(booked, 2):
                    self.assertTrue(one.begin - other.end >= rink.gap or other.begin - one.end >= rink.gap)

    def test_what_it_bears(self):
        """So many are let on to hard ice, and a minute goes by."""
        borne = melted = 0
        for seed in range(480, 500):
            for walk, call, answer in steps(seed, 400, 4):
                ice, water, on, minute = walk.asked(ICE)
                bears, room = walk.asked(BEARS)[0], walk.start[3]
                if on or walk.asked(HARD)[0] == 0 or minute == 50000:
                    continue
                if bears < 0:
                    self.assertLess(walk.tried([MINUTES, 1])[-1][1], ice)
                if bears > 0:
                    self.assertEqual(walk.tried([GO, bears], [MINUTES, 1])[-1], [minute + 1, ice, 0, bears])
                    borne += 1
                if 0 <= bears < room:
                    self.assertLess(walk.tried([GO, bears + 1], [MINUTES, 1])[-1][1], ice)
                    melted += 1
        self.assertGreater(min(borne, melted), 10)

    def test_hard_in_so_many_minutes_and_in_no_fewer(self):
        waited = never = 0
        for seed in range(500, 525):
            for walk, call, answer in steps(seed, 300, 5):
                soon, minute = walk.asked(SOON)[0], walk.asked(ICE)[3]
                self.assertEqual(soon == 0, walk.asked(HARD)[0] == 1)
                if soon > 0 and minute + soon <= 50000:
                    self.assertEqual(walk.tried([MINUTES, soon], [HARD])[-1][0], 1)
                    self.assertEqual(walk.tried([MINUTES, soon - 1], [HARD])[-1][0], 0)
                    self.assertEqual(walk.tried(*[[MINUTES, 1]] * (soon - 1), [HARD])[-1][0], 0)
                    waited += 1
                if soon < 0 and minute + 1440 <= 50000:
                    self.assertEqual(walk.tried([MINUTES, 1440], [HARD])[-1][0], 0)
                    never += 1
        self.assertGreater(min(waited, never), 20)

    def test_in_whatever_pieces(self):
        for seed in range(530, 550):
            for walk, call, answer in steps(seed, 300, 12):
                minute = walk.asked(ICE)[3]
                for n, cut in ((2, 1), (7, 3), (60, 59)):
                    if minute + n > 50000:
                        continue
                    asks = [[ICE], [WATER], [MONEY], [POWER], [HARD]]
                    whole = walk.tried([MINUTES, n], *asks)[-5:]
                    self.assertEqual(walk.tried([MINUTES, cut], [MINUTES, n - cut], *asks)[-5:], whole)
                    self.assertEqual(walk.tried(*[[MINUTES, 1]] * n, *asks)[-5:], whole)

    def test_each_pair(self):
        for seed in range(550, 570):
            bought = 0
            for walk, call, answer in steps(seed, 400):
                sizes = [walk.asked(SIZE, k) for k in range(10)]
                for size in sizes:
                    self.assertEqual(size[0], sum(size[1:]))
                    self.assertGreaterEqual(min(size), 0)
                    self.assertLessEqual(size[0], 100)
                if call[0] == 9 and answer[0] > 0:
                    bought += call[2]
                if call[0] in (0, BACK, AGAIN):
                    bought = sum(size[0] for size in sizes)
                self.assertEqual(bought, sum(size[0] for size in sizes))
                self.assertEqual(bought, walk.asked(STATE)[3])

    def test_refusals_and_asks_change_nothing(self):
        for seed in range(600, 630):
            ahead = None
            for walk, call, answer in steps(seed, 400):
                desk = walk.desk
                now = (kept(desk.rink), list(map(id, desk.earlier)), list(map(id, desk.later)))
                if ahead and (answer[0] < 0 or 17 <= call[0] <= 30 or call[0] == STATE):
                    self.assertEqual(now, ahead, call)
                if answer[0] < 0:
                    self.assertEqual(len(answer), 1)
                ahead = now

    def test_what_is_spent_and_sent_off(self):
        sent_at_all = 0
        for seed in range(640, 660):
            ahead = None
            for walk, call, answer in steps(seed, 400):
                now = (walk.asked(MONEY), walk.asked(ICE), walk.asked(POWER))
                if ahead and call[0] not in (0, BACK, AGAIN):
                    gone = call[1] if call[0] == MINUTES and answer[0] >= 0 else 0
                    self.assertEqual(now[0][0], ahead[0][0] + gone * ahead[2][2])
                    self.assertEqual(now[1][3], ahead[1][3] + gone)
                    sent = ahead[1][2] - now[1][2] if gone else 0
                    self.assertEqual(now[0][3], ahead[0][3] + sent)
                    sent_at_all += sent
                ahead = now
        self.assertGreater(sent_at_all, 100)


class TakenBackAndDoneAgain(unittest.TestCase):
    def test_all_can_be_taken_back_and_done_again(self):
        """The rinks ahead of the last changes are written down, then come back one by one, from either end."""
        for seed in range(700, 760):
            line = [call for call in line_of_calls(seed, 250) if call[0] not in (BACK, AGAIN)]
            desk, rinks = Desk(), [kept(Desk().rink)]
            for call in line:
                answer = call_desk(desk, call[0], call[1:])
                if call[0] == 0 and answer == [0]:
                    rinks = [kept(desk.rink)]
                elif call[0] <= 16 and answer[0] >= 0:
                    rinks.append(kept(desk.rink))
            count = min(30, len(rinks) - 1)
            for turn in range(2):
                for k in range(count):
                    self.assertEqual(kept(desk.rink), rinks[-1 - k])
                    self.assertEqual(call_desk(desk, STATE, [])[4:], [count - k, k])
                    self.assertEqual(call_desk(desk, BACK, []), [count - k - 1])
                self.assertEqual(call_desk(desk, BACK, []), [-2])
                for k in range(count):
                    self.assertEqual(kept(desk.rink), rinks[-1 - count + k])
                    self.assertEqual(call_desk(desk, AGAIN, []), [count - k - 1])
                self.assertEqual(call_desk(desk, AGAIN, []), [-2])
                self.assertEqual(kept(desk.rink), rinks[-1])

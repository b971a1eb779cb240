"""Point 6: whether it's hard and when, how many it bears, and the cheapest machines."""

import itertools
import random
import unittest

from tests.helper import TOP, Refusals, last, play

LAID = ["start 10 3 50 20", "machine 30 4", "run 0 1", "flood 100"]
HARD = LAID + ["minutes 5"]


def with_machines(start, machines):
    return [start] + [f"machine {cold} {cost}" for cold, cost in machines]


def brute_cheapest(machines, heat):
    """Every set, as the words tell it."""
    best = None
    for chosen in itertools.product((0, 1), repeat=len(machines)):
        bits = sum(one << k for k, one in enumerate(chosen))
        cold = sum(machines[k][0] for k, one in enumerate(chosen) if one)
        cost = sum(machines[k][1] for k, one in enumerate(chosen) if one)
        if cold >= heat and (best is None or (cost, bits) < (best[0], best[1])):
            best = [cost, bits, cold]
    return [-33] if best is None else best


class Hard(Refusals, unittest.TestCase):
    def test_no_water_and_ice_enough(self):
        self.asked(HARD, "hard", 1, 1, 1)
        self.asked(HARD + ["go 3"], "hard", 1, 1, 1)

    def test_water_but_ice_enough(self):
        self.asked(HARD + ["flood 1"], "hard", 0, 0, 1)
        self.asked(LAID + ["minutes 3"], "hard", 0, 0, 1)

    def test_no_water_but_too_little_ice(self):
        self.asked(HARD + ["shave 51"], "hard", 0, 1, 0)
        self.asked(["start 10 3 50 20"], "hard", 0, 1, 0)

    def test_neither(self):
        self.asked(LAID, "hard", 0, 0, 0)
        self.asked(LAID + ["minutes 2"], "hard", 0, 0, 0)

    def test_just_as_much_ice_as_the_least(self):
        self.asked(HARD + ["shave 50"], "hard", 1, 1, 1)
        self.asked(HARD + ["shave 50", "flood 1"], "hard", 0, 0, 1)
        self.asked(["start 0 0 1 1"], "hard", 0, 1, 0)


class Soon(Refusals, unittest.TestCase):
    def test_it_is_hard_already(self):
        self.asked(HARD, "soon", 0)
        self.asked(HARD + ["run 0 0"], "soon", 0)

    def test_with_skaters_on_it_it_is_hard(self):
        self.asked(HARD + ["go 6"], "soon", 0)
        self.asked(HARD + ["go 20"], "soon", 0)
        self.asked(HARD + ["go 20", "run 0 0"], "soon", 0)

    def test_behind_skaters_who_were_sent_off(self):
        """Twenty melt 40 in the minute; freed of them 20 freeze a minute."""
        self.assertEqual(play(HARD + ["go 20", "minutes 1", "ice", "soon"])[-2:], [[60, 40, 0, 6], [2]])

    def test_as_many_minutes_as_the_water_takes(self):
        self.asked(LAID, "soon", 5)
        self.asked(LAID + ["drain 1"], "soon", 5)
        self.asked(LAID + ["flood 1"], "soon", 6)
        self.asked(LAID + ["drain 19"], "soon", 5)
        self.asked(LAID + ["drain 20"], "soon", 4)
        self.asked(HARD + ["flood 1"], "soon", 1)

    def test_just_a_day_and_one_minute_more(self):
        slow = ["start 0 5 1 1", "machine 1 0", "run 0 1"]
        self.asked(slow + ["flood 1440"], "soon", 1440)
        self.asked(slow + ["flood 1441"], "soon", -33)
        self.asked(slow + ["flood 1441", "minutes 1"], "soon", 1440)
        two = ["start 10 5 2880 1", "machine 12 0", "run 0 1"]
        self.asked(two + ["flood 2880"], "soon", 1440)
        self.asked(two + ["flood 2881"], "soon", -33)
        self.asked(two + ["flood 1000000"], "soon", -33)

    def test_water_and_ice_together_are_the_least_or_less(self):
        self.asked(LAID + ["drain 50"], "soon", 3)
        self.asked(LAID + ["drain 51"], "soon", -33)
        self.asked(LAID + ["minutes 2", "drain 50"], "soon", 1)
        self.asked(LAID + ["minutes 2", "drain 51"], "soon", -33)
        self.asked(HARD + ["shave 51"], "soon", -33)
        self.asked(["start 10 3 50 20", "machine 30 4", "run 0 1"], "soon", -33)

    def test_cold_no_more_than_the_air_melts(self):
        melting = HARD + ["run 0 0", "minutes 1"]
        self.asked(melting, "soon", -33)
        self.asked(melting + ["machine 9 0", "run 1 1"], "soon", -33)
        self.asked(melting + ["machine 10 0", "run 1 1"], "soon", -33)
        self.asked(melting + ["machine 11 0", "run 1 1"], "soon", 10)
        self.asked(melting + ["run 0 1"], "soon", 1)
        self.asked(["start 0 0 1 1", "flood 1"], "soon", -33)

    def test_machines_as_they_run(self):
        more = LAID + ["machine 20 0"]
        self.asked(more, "soon", 5)
        self.asked(more + ["run 1 1"], "soon", 3)
        self.asked(more + ["run 1 1", "run 0 0"], "soon", 10)

    def test_it_is_told_behind_the_last_minute_too(self):
        late = HARD + ["minutes 1440"] * 34 + ["minutes 1035", "flood 41"]
        self.asked(late, "soon", 3)

    def test_hard_in_so_many_minutes_and_in_no_fewer(self):
        source = random.Random(11)
        for trial in range(60):
            base = source.choice((0, 1, 10, 500))
            ahead = [f"start {base} 2 {source.choice((1, 40, 300))} 9", f"machine {base + source.randint(1, 40)} 1",
                     "run 0 1", f"flood {source.randint(1, 400)}"]
            ahead += source.choice(([], ["minutes 3"], ["minutes 2", "run 0 0", "minutes 1", "run 0 1"]))
            told = last(ahead + ["soon"])[0]
            hard = [part[0] for part in play(ahead + ["minutes 1", "hard"] * 400)[len(ahead) + 1::2]]
            if told > 0:
                self.assertEqual(hard.index(1) + 1, told, ahead)
            elif told == 0:
                self.assertEqual(last(ahead + ["hard"]), [1, 1, 1], ahead)
            else:
                self.assertNotIn(1, hard, ahead)


class Bears(Refusals, unittest.TestCase):
    def bears(self, start, cold, *numbers):
        self.asked([start, f"machine {cold} 1", "run 0 1"], "bears", *numbers)

    def test_cold_less_than_base_like_it_and_more(self):
        self.bears("start 10 3 50 20", 9, -33)
        self.bears("start 10 3 50 20", 10, 0)
        self.bears("start 10 3 50 20", 12, 0)
        self.bears("start 10 3 50 20", 13, 1)
        self.bears("start 10 3 50 20", 15, 1)
        self.bears("start 10 3 50 20", 16, 2)

    def test_skaters_who_melt_nothing(self):
        self.bears("start 10 0 50 20", 9, -33)
        self.bears("start 10 0 50 20", 10, 20)
        self.bears("start 10 0 50 500", 5000, 500)

    def test_as_far_as_there_is_room(self):
        self.bears("start 10 3 50 20", 69, 19)
        self.bears("start 10 3 50 20", 70, 20)
        self.bears("start 10 3 50 20", 73, 20)
        self.bears("start 0 1 1 1", 5000, 1)
        self.bears("start 0 100 1 500", 5000, 50)

    def test_without_machines(self):
        self.asked(["start 0 1 1 9"], "bears", 0)
        self.asked(["start 0 0 1 9"], "bears", 9)
        self.asked(["start 1 0 1 9"], "bears", -33)
        self.asked(["start 1000 100 1 9"], "bears", -33)

    def test_machines_that_run_alone_count(self):
        two = HARD + ["machine 6 1"]
        self.asked(two, "bears", 6)
        self.asked(two + ["run 1 1"], "bears", 8)
        self.asked(two + ["run 1 1", "run 0 0"], "bears", -33)

    def test_whoever_is_on_it_and_soft_ice_do_not_matter(self):
        self.asked(HARD + ["go 4"], "bears", 6)
        self.asked(HARD + ["go 9"], "bears", 6)
        self.asked(LAID, "bears", 6)

    def test_so_many_melt_nothing_and_one_more_does(self):
        self.assertEqual(last(HARD + ["go 6", "minutes 1440"]), [1445, 100, 0, 6])
        self.assertEqual(last(HARD + ["go 7", "minutes 1"]), [6, 99, 1, 0])


class Cheapest(Refusals, unittest.TestCase):
    def test_five_hundred_and_one_more(self):
        enough = with_machines("start 10 1 1 1", [(509, 1), (510, 2)])
        self.asked(enough, "cheapest 499", 1, 1, 509)
        self.asked(enough, "cheapest 500", 2, 2, 510)
        self.all_refused(enough, ["cheapest 501", f"cheapest {TOP}"], -22)

    def test_too_many_is_told_ahead_of_no_such_set(self):
        self.refused(["start 10 1 1 1"], "cheapest 500", -33)
        self.all_refused(["start 10 1 1 1"], ["cheapest 501", f"cheapest {TOP}"], -22)

    def test_no_such_set(self):
        two = with_machines("start 10 3 1 20", [(7, 1), (8, 1)])
        self.asked(two, "cheapest 1", 2, 3, 15)
        self.refused(two, "cheapest 2", -33)
        self.asked(with_machines("start 10 3 1 20", [(7, 1), (9, 1)]), "cheapest 2", 2, 3, 16)

    def test_none_needed(self):
        self.asked(["start 0 3 1 20"], "cheapest 0", 0, 0, 0)
        self.refused(["start 0 3 1 20"], "cheapest 1", -33)
        self.refused(["start 1 0 1 20"], "cheapest 0", -33)
        self.asked(["start 0 0 1 20"], "cheapest 500", 0, 0, 0)
        self.asked(with_machines("start 0 0 1 20", [(5, 0), (6, 0)]), "cheapest 9", 0, 0, 0)

    def test_the_heat_is_just_reached(self):
        one = with_machines("start 10 3 1 20", [(22, 7)])
        self.asked(one, "cheapest 4", 7, 1, 22)
        self.refused(one, "cheapest 5", -33)

    def test_the_least_cost_not_the_least_cold_or_the_fewest(self):
        machines = with_machines("start 10 0 1 20", [(10, 9), (500, 8), (4, 3), (6, 4)])
        self.asked(machines, "cheapest 0", 7, 0b1100, 10)

    def test_of_like_cost_the_least_as_bits(self):
        self.asked(with_machines("start 10 0 1 1", [(10, 5), (10, 5)]), "cheapest 0", 5, 1, 10)
        self.asked(with_machines("start 10 0 1 1", [(5, 2), (5, 3), (10, 5)]), "cheapest 0", 5, 3, 10)
        self.asked(with_machines("start 10 0 1 1", [(10, 5), (5, 2), (5, 3)]), "cheapest 0", 5, 1, 10)
        self.asked(with_machines("start 10 0 1 1", [(9, 5), (10, 5), (90, 5)]), "cheapest 0", 5, 2, 10)

    def test_machines_that_cost_nothing(self):
        free = with_machines("start 5 5 1 1", [(5, 0), (10, 0), (1, 0)])
        self.asked(free, "cheapest 0", 0, 1, 5)
        self.asked(free, "cheapest 1", 0, 2, 10)
        self.asked(free, "cheapest 2", 0, 3, 15)
        self.refused(free, "cheapest 3", -33)

    def test_whether_they_run_does_not_matter(self):
        machines = with_machines("start 10 0 1 1", [(20, 5), (10, 4), (30, 6)])
        for runs in ([], ["run 0 1"], ["run 0 1", "run 2 1"], ["run 1 1"], ["run 0 1", "run 1 1", "run 2 1"]):
            self.asked(machines + runs, "cheapest 0", 4, 2, 10)

    def test_room_does_not_matter(self):
        self.asked(with_machines("start 0 1 1 3", [(50, 1)]), "cheapest 50", 1, 1, 50)

    def test_six_of_the_most(self):
        six = [(5000, 1000)] * 6
        self.asked(with_machines("start 0 60 1 1", six), "cheapest 500", 6000, 63, 30000)
        self.refused(with_machines("start 1 60 1 1", six), "cheapest 500", -33)
        self.refused(with_machines("start 1000 100 1 1", six), "cheapest 500", -33)
        self.asked(with_machines("start 0 60 1 1", six), "cheapest 1", 1000, 1, 5000)

    def test_as_every_set_looked_at(self):
        source = random.Random(6)
        for count in [0, 1, 2, 3, 4, 5, 6, 6, 6] * 20:
            machines = [(source.randint(1, 30), source.choice((0, 1, 2, 3, 9))) for k in range(count)]
            base, each = source.choice((0, 3, 20)), source.choice((0, 1, 4))
            questions = list(range(0, 40, 3))
            told = play(with_machines(f"start {base} {each} 1 5", machines) + [f"cheapest {n}" for n in questions])
            for n, answer in zip(questions, told[1 + count:], strict=True):
                self.assertEqual(answer, brute_cheapest(machines, base + n * each), (base, each, n, machines))

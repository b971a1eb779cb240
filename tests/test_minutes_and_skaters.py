"""Point 3: minutes that go by, and skaters who come and go."""

import unittest

from icerink.ice import ir_drain, ir_flood, ir_go, ir_machine, ir_minutes, ir_run, ir_shave
from icerink.state import Rink
from tests.helper import TOP, Refusals, last, play

LAID = ["start 10 3 50 20", "machine 30 4", "run 0 1", "flood 100"]
HARD = LAID + ["minutes 5"]


class Minute(unittest.TestCase):
    def test_cold_above_the_heat_freezes_the_difference(self):
        self.assertEqual(play(LAID + ["minutes 1", "minutes 1"])[-2:], [[1, 20, 80, 0], [2, 40, 60, 0]])

    def test_cold_one_above_the_heat(self):
        self.assertEqual(last(["start 29 0 1 1", "machine 30 0", "run 0 1", "flood 9", "minutes 1"]), [1, 1, 8, 0])

    def test_cold_like_the_heat_changes_nothing(self):
        self.assertEqual(last(LAID + ["minutes 2", "machine 10 0", "run 0 0", "run 1 1", "minutes 3"]),
                         [5, 40, 60, 0])

    def test_cold_below_the_heat_melts_the_difference(self):
        self.assertEqual(play(HARD + ["run 0 0", "minutes 1", "machine 9 0", "run 1 1", "minutes 1"])[-4:],
                         [[6, 90, 10, 0], [1], [9], [7, 89, 11, 0]])

    def test_no_more_freezes_than_there_is_water(self):
        nearly = LAID + ["drain 59"]
        self.assertEqual(last(nearly + ["minutes 2"]), [2, 40, 1, 0])
        self.assertEqual(last(nearly + ["minutes 3"]), [3, 41, 0, 0])
        self.assertEqual(last(nearly + ["minutes 4"]), [4, 41, 0, 0])

    def test_no_more_melts_than_there_is_ice(self):
        nearly = HARD + ["shave 79", "run 0 0"]
        self.assertEqual(last(nearly + ["minutes 2"]), [7, 1, 20, 0])
        self.assertEqual(last(nearly + ["minutes 3"]), [8, 0, 21, 0])
        self.assertEqual(last(nearly + ["minutes 4"]), [9, 0, 21, 0])

    def test_only_machines_that_run_freeze(self):
        self.assertEqual(last(LAID + ["machine 500 0", "minutes 1"]), [1, 20, 80, 0])

    def test_skaters_bring_heat(self):
        """Six melt 18 beside the air's 10, which 30 of cold bears; seven melt 21, which it doesn't."""
        self.assertEqual(last(HARD + ["go 6", "minutes 1440"]), [1445, 100, 0, 6])
        self.assertEqual(last(HARD + ["go 7", "minutes 1"]), [6, 99, 1, 0])

    def test_cold_like_the_heat_of_skaters_keeps_them_on(self):
        self.assertEqual(last(["start 10 5 50 20"] + HARD[1:] + ["go 4", "minutes 9"]), [14, 100, 0, 4])
        self.assertEqual(last(["start 10 5 50 20"] + HARD[1:] + ["go 5", "minutes 1"]), [6, 95, 5, 0])

    def test_whoever_is_sent_off_melts_nothing_any_more(self):
        self.assertEqual(last(HARD + ["go 20", "minutes 2"]), [7, 80, 20, 0])
        self.assertEqual(last(HARD + ["go 20", "minutes 3"]), [8, 100, 0, 0])

    def test_all_are_sent_off_when_machines_stop(self):
        self.assertEqual(play(HARD + ["go 2", "run 0 0", "minutes 1", "go 1"])[-2:], [[6, 84, 16, 0], [-13]])

    def test_what_is_spent_and_how_many_were_sent_off(self):
        rink = Rink(10, 3, 50, 20)
        for cost in (4, 1000, 7):
            ir_machine(rink, 30, cost)
        ir_run(rink, 0, 1)
        ir_run(rink, 2, 1)
        ir_flood(rink, 100)
        ir_minutes(rink, 5)
        self.assertEqual((rink.spent, rink.sent_off, rink.laid), (55, 0, 100))
        ir_run(rink, 2, 0)
        ir_go(rink, 20)
        ir_minutes(rink, 2)
        self.assertEqual((rink.spent, rink.sent_off), (63, 20))
        ir_run(rink, 0, 0)
        ir_minutes(rink, 1440)
        self.assertEqual((rink.spent, rink.sent_off), (63, 20))
        self.assertEqual(ir_minutes(rink, 1441), [-22])
        self.assertEqual(rink.spent, 63)

    def test_each_litre_is_accounted_for(self):
        rink = Rink(10, 3, 50, 20)
        ir_machine(rink, 30, 4)
        ir_run(rink, 0, 1)
        ir_flood(rink, 100)
        ir_minutes(rink, 2)
        ir_drain(rink, 7)
        ir_shave(rink, 5)
        ir_drain(rink, 6)
        ir_shave(rink, 4)
        self.assertEqual((rink.laid, rink.ice, rink.water, rink.shaved, rink.drained), (100, 31, 47, 9, 13))


class Pieces(unittest.TestCase):
    def test_the_same_in_whatever_pieces(self):
        for ahead in (LAID, HARD, HARD + ["go 6"], HARD + ["go 7"], HARD + ["go 20"], HARD + ["run 0 0"],
                      HARD + ["go 3", "run 0 0"], LAID + ["run 0 0"]):
            for n in (2, 3, 5, 8, 40):
                whole = last(ahead + [f"minutes {n}"])
                self.assertEqual(last(ahead + ["minutes 1"] * n), whole)
                for cut in range(1, n):
                    self.assertEqual(last(ahead + [f"minutes {cut}", f"minutes {n - cut}"]), whole)

    def test_as_much_is_spent_in_whatever_pieces(self):
        def spent(pieces):
            rink = Rink(10, 3, 50, 20)
            ir_machine(rink, 30, 4)
            ir_run(rink, 0, 1)
            ir_flood(rink, 100)
            ir_minutes(rink, 5)
            ir_go(rink, 7)
            for n in pieces:
                ir_minutes(rink, n)
            return (rink.spent, rink.sent_off, rink.ice, rink.water, rink.minute)

        self.assertEqual(spent([12]), spent([1] * 12))
        self.assertEqual(spent([12]), spent([5, 7]))


class Minutes(Refusals, unittest.TestCase):
    def test_one_and_a_day(self):
        self.taken(LAID, "minutes 1", 1, 20, 80, 0)
        self.taken(LAID, "minutes 1440", 1440, 100, 0, 0)
        self.all_refused(LAID, ["minutes 0", "minutes 1441", f"minutes {TOP}"], -22)
        self.all_refused(HARD + ["go 5"], ["minutes 0", "minutes 1441"], -22)

    def test_minute_fifty_thousand_is_the_last(self):
        late = HARD + ["go 5"] + ["minutes 1440"] * 34
        self.assertEqual(last(late), [48965, 100, 0, 5])
        self.taken(late, "minutes 1035", 50000, 100, 0, 5)
        self.all_refused(late, ["minutes 1036", "minutes 1440"], -75)
        end = late + ["minutes 1035"]
        self.all_refused(end, ["minutes 1", "minutes 1440"], -75)
        self.all_refused(end, ["minutes 0", "minutes 1441", f"minutes {TOP}"], -22)
        self.assertEqual(last(late + ["minutes 1034", "minutes 1"]), [50000, 100, 0, 5])


class Go(Refusals, unittest.TestCase):
    def test_all_who_are_on_it_are_told(self):
        self.assertEqual(play(HARD + ["go 1", "go 4"])[-2:], [[1], [5]])

    def test_nought_is_refused_ahead_of_all(self):
        self.refused(LAID, "go 0", -22)
        self.refused(HARD + ["go 20"], "go 0", -22)

    def test_ice_must_be_as_much_as_the_least(self):
        self.taken(HARD + ["shave 50"], "go 1", 1)
        self.refused(HARD + ["shave 51"], "go 1", -13)

    def test_no_water_may_be_on_it(self):
        self.refused(HARD + ["flood 1"], "go 1", -13)
        self.taken(HARD + ["flood 1", "drain 1"], "go 1", 1)
        self.refused(["start 0 0 1 1"], "go 1", -13)

    def test_soft_ice_is_told_ahead_of_no_room(self):
        self.all_refused(LAID, ["go 1", "go 21", f"go {TOP}"], -13)

    def test_as_many_as_there_is_room_for(self):
        self.taken(HARD, "go 20", 20)
        self.all_refused(HARD, ["go 21", f"go {TOP}"], -28)
        self.taken(HARD + ["go 13"], "go 7", 20)
        self.refused(HARD + ["go 13"], "go 8", -28)
        self.refused(HARD + ["go 20"], "go 1", -28)
        self.taken(HARD + ["go 20", "off 1"], "go 1", 20)

    def test_the_least_and_room_at_their_edges(self):
        small = ["start 0 0 1 1", "machine 1 0", "run 0 1", "flood 1", "minutes 1"]
        self.taken(small, "go 1", 1)
        self.refused(small, "go 2", -28)
        great = ["start 0 0 100000 500", "machine 5000 0", "run 0 1", "flood 100000"]
        self.refused(great + ["minutes 19"], "go 500", -13)
        self.taken(great + ["minutes 20"], "go 500", 500)
        self.refused(great + ["minutes 20"], "go 501", -28)
        self.refused(great + ["minutes 20", "shave 1"], "go 1", -13)


class Off(Refusals, unittest.TestCase):
    def test_who_are_left_are_told(self):
        self.assertEqual(play(HARD + ["go 9", "off 1", "off 8"])[-2:], [[8], [0]])

    def test_nought_is_refused(self):
        self.refused(HARD, "off 0", -22)
        self.refused(HARD + ["go 3"], "off 0", -22)

    def test_more_than_are_on_it(self):
        self.all_refused(HARD, ["off 1", f"off {TOP}"], -12)
        self.all_refused(HARD + ["go 3"], ["off 4", f"off {TOP}"], -12)
        self.taken(HARD + ["go 3"], "off 3", 0)

    def test_those_sent_off_are_not_on_it(self):
        self.refused(HARD + ["go 7", "minutes 1"], "off 1", -12)

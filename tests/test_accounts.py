"""Points 8 and 9: the ice, the power, each litre, and the money."""

import unittest

from tests.helper import Refusals, last, play

START = ["start 10 3 50 20"]
LAID = START + ["machine 30 4", "machine 7 1000", "machine 5 9", "run 0 1", "flood 100"]
HARD = LAID + ["minutes 5"]


class Ice(Refusals, unittest.TestCase):
    def test_at_first(self):
        self.asked(START, "ice", 0, 0, 0, 0)

    def test_ice_water_skaters_and_the_minute(self):
        self.asked(LAID, "ice", 0, 100, 0, 0)
        self.asked(LAID + ["minutes 2"], "ice", 40, 60, 0, 2)
        self.asked(HARD + ["go 4"], "ice", 100, 0, 4, 5)
        self.asked(HARD + ["go 4", "off 1", "minutes 9"], "ice", 100, 0, 3, 14)
        self.asked(HARD + ["go 20", "minutes 1"], "ice", 60, 40, 0, 6)
        self.asked(HARD + ["shave 9", "flood 3", "drain 1"], "ice", 91, 2, 0, 5)

    def test_the_last_minute(self):
        self.assertEqual(last(HARD + ["minutes 1440"] * 34 + ["minutes 1035", "ice"]), [100, 0, 0, 50000])


class Power(Refusals, unittest.TestCase):
    def test_at_first_the_air_alone(self):
        self.asked(START, "power", 0, 10, 0)
        self.asked(["start 0 100 1 1"], "power", 0, 0, 0)
        self.asked(["start 1000 100 1 1"], "power", 0, 1000, 0)

    def test_machines_that_run(self):
        self.asked(LAID, "power", 30, 10, 4)
        self.asked(LAID + ["run 2 1"], "power", 35, 10, 13)
        self.asked(LAID + ["run 2 1", "run 1 1"], "power", 42, 10, 1013)
        self.asked(LAID + ["run 2 1", "run 0 0"], "power", 5, 10, 9)

    def test_all_who_are_on_it(self):
        self.asked(HARD + ["go 1"], "power", 30, 13, 4)
        self.asked(HARD + ["go 20"], "power", 30, 70, 4)
        self.asked(HARD + ["go 20", "off 19"], "power", 30, 13, 4)
        self.asked(HARD + ["go 20", "minutes 1"], "power", 30, 10, 4)

    def test_the_most(self):
        full = ["start 1000 100 1 500"] + ["machine 5000 1000"] * 6 + [f"run {k} 1" for k in range(6)]
        self.asked(full + ["flood 1", "minutes 1", "go 500"], "power", 30000, 51000, 6000)


class Water(Refusals, unittest.TestCase):
    def test_at_first_none_was_laid(self):
        self.asked(START, "water", 0, 0, 0, 0, 0)

    def test_each_litre_is_told_where_it_is(self):
        self.asked(LAID, "water", 100, 0, 100, 0, 0)
        self.asked(LAID + ["minutes 2"], "water", 100, 40, 60, 0, 0)
        self.asked(LAID + ["minutes 2", "drain 7"], "water", 100, 40, 53, 0, 7)
        self.asked(LAID + ["minutes 2", "drain 7", "shave 5"], "water", 100, 35, 53, 5, 7)
        self.asked(LAID + ["minutes 2", "drain 7", "shave 5", "drain 6", "shave 4", "flood 1000"],
                   "water", 1100, 31, 1047, 9, 13)

    def test_what_melts_is_water_on_it(self):
        self.asked(HARD + ["run 0 0", "minutes 3"], "water", 100, 70, 30, 0, 0)
        self.asked(HARD + ["run 0 0", "minutes 30"], "water", 100, 0, 100, 0, 0)

    def test_all_is_gone_and_was_laid(self):
        self.asked(LAID + ["minutes 2", "shave 40", "drain 60"], "water", 100, 0, 0, 40, 60)

    def test_a_million(self):
        self.asked(START + ["flood 1000000", "drain 1000000"], "water", 1000000, 0, 0, 0, 1000000)

    def test_refused_litres_are_not_told(self):
        self.asked(LAID + ["flood 999901", "drain 101", "shave 1"], "water", 100, 0, 100, 0, 0)

    def test_over_many_calls(self):
        texts = list(LAID)
        for k in range(40):
            texts += [f"flood {k + 1}", "minutes 1", "water", f"shave {k % 7 + 1}", f"drain {k % 5 + 1}", "water"]
        told = [part for text, part in zip(texts, play(texts), strict=True) if text == "water"]
        for part in told:
            self.assertEqual(part[0], sum(part[1:]))
        self.assertEqual(told[-1][0], 100 + 40 * 41 // 2)


class Money(Refusals, unittest.TestCase):
    def test_at_first(self):
        self.asked(START, "money", 0, 0, 0, 0)

    def test_what_machines_that_run_cost_is_spent_each_minute(self):
        self.asked(HARD, "money", 20, 0, 0, 0)
        self.asked(HARD + ["run 2 1"], "money", 20, 0, 0, 0)
        self.asked(HARD + ["run 2 1", "minutes 10"], "money", 150, 0, 0, 0)
        self.asked(HARD + ["run 0 0", "minutes 10"], "money", 20, 0, 0, 0)
        self.asked(HARD + ["run 1 1", "minutes 1"], "money", 1024, 0, 0, 0)

    def test_the_most_that_can_be_spent(self):
        full = ["start 0 0 1 1"] + ["machine 1 1000"] * 6 + [f"run {k} 1" for k in range(6)]
        self.assertEqual(last(full + ["minutes 1440"] * 34 + ["minutes 1040", "money"]), [300000000, 0, 0, 0])

    def test_fees_and_the_number_of_booked_sessions(self):
        asked = START + ["ask 0 60 5", "ask 30 90 7", "ask 90 99 2", "ask 99 100 4"]
        self.asked(asked, "money", 0, 0, 0, 0)
        self.asked(asked + ["book"], "money", 0, 13, 3, 0)
        self.asked(asked + ["book", "drop 2"], "money", 0, 11, 2, 0)
        self.asked(asked + ["book", "drop 2", "drop 1", "drop 3"], "money", 0, 0, 0, 0)
        self.asked(asked + ["book", "ask 200 201 50"], "money", 0, 13, 3, 0)
        self.asked(asked + ["book", "ask 200 201 50", "book"], "money", 0, 63, 4, 0)

    def test_the_most_fees(self):
        self.asked(START + [f"ask {k} {k + 1} 100000" for k in range(8)] + ["book"], "money", 0, 800000, 8, 0)

    def test_how_many_were_ever_sent_off(self):
        sent = HARD + ["go 9", "minutes 1"]
        self.asked(HARD + ["go 9"], "money", 20, 0, 0, 0)
        self.asked(sent, "money", 24, 0, 0, 9)
        self.asked(sent + ["minutes 9"], "money", 60, 0, 0, 9)
        self.asked(sent + ["minutes 1", "go 7", "minutes 1"], "money", 32, 0, 0, 16)

    def test_whoever_goes_off_by_themselves_is_not_sent_off(self):
        self.asked(HARD + ["go 9", "off 4", "off 5", "minutes 3"], "money", 32, 0, 0, 0)
        self.asked(HARD + ["go 9", "off 2", "minutes 1"], "money", 24, 0, 0, 7)

    def test_whoever_is_borne_is_not_sent_off(self):
        self.asked(HARD + ["go 6", "minutes 100"], "money", 420, 0, 0, 0)

    def test_another_start_leaves_nothing_of_it(self):
        self.asked(HARD + ["go 9", "minutes 1", "ask 0 1 5", "book"] + START, "money", 0, 0, 0, 0)

"""Point 2: machines, and water laid, shaved off and drained."""

import unittest

from tests.helper import TOP, Refusals, last, play

START = ["start 0 1 10 5"]
COLD = START + ["machine 100 3", "run 0 1"]
HARD = COLD + ["flood 20", "minutes 1"]
SKATED = HARD + ["go 2"]
SIX = START + [f"machine {k + 1} {k}" for k in range(6)]


class Machines(Refusals, unittest.TestCase):
    def test_machines_are_numbered_from_nought_up_to_six_of_them(self):
        self.assertEqual(play(SIX)[1:], [[0], [1], [2], [3], [4], [5]])
        self.refused(SIX, "machine 1 1", -28)

    def test_cold_and_cost_at_their_edges(self):
        for text in ("machine 1 0", "machine 5000 1000", "machine 1 1000", "machine 5000 0"):
            self.taken(START, text, 0)
        wrong = ["machine 0 0", "machine 5001 0", "machine 1 1001", f"machine {TOP} 0", f"machine 1 {TOP}",
                 "machine 0 1001"]
        self.all_refused(START, wrong, -22)

    def test_what_is_wrong_is_told_ahead_of_six(self):
        self.all_refused(SIX, ["machine 0 0", "machine 5001 0", "machine 1 1001"], -22)


class Run(Refusals, unittest.TestCase):
    def test_the_cold_is_that_of_all_that_run(self):
        told = play(START + ["machine 5 1", "machine 70 1", "run 1 1", "run 0 1", "run 1 0", "run 0 0"])
        self.assertEqual(told[3:], [[70], [75], [5], [0]])

    def test_six_of_the_most_cold(self):
        told = play(START + ["machine 5000 1000"] * 6 + [f"run {k} 1" for k in range(6)])
        self.assertEqual(told[-1], [30000])

    def test_a_new_machine_does_not_run(self):
        self.refused(START + ["machine 5 1"], "run 0 0", -17)

    def test_what_is_so_already_is_refused(self):
        self.refused(COLD, "run 0 1", -17)
        self.refused(COLD + ["run 0 0"], "run 0 0", -17)

    def test_on_above_one_is_refused(self):
        self.all_refused(COLD, ["run 0 2", f"run 0 {TOP}"], -22)

    def test_a_machine_that_is_not_there_comes_first(self):
        self.all_refused(COLD, ["run 1 0", "run 1 1", "run 1 2", f"run {TOP} {TOP}", f"run {TOP} 1"], -2)
        self.all_refused(SIX, ["run 6 1", "run 6 2"], -2)
        self.taken(SIX, "run 5 1", 6)


class Flood(Refusals, unittest.TestCase):
    def test_all_the_water_on_it_is_told(self):
        self.assertEqual(play(START + ["flood 1", "flood 41"])[1:], [[1], [42]])

    def test_ice_is_not_counted_with_the_water(self):
        self.assertEqual(last(HARD + ["flood 3"]), [3])

    def test_nought_is_refused_ahead_of_all(self):
        self.refused(START, "flood 0", -22)
        self.refused(SKATED, "flood 0", -22)

    def test_somebody_on_it_is_told_ahead_of_too_much(self):
        self.all_refused(SKATED, ["flood 1", "flood 1000000", f"flood {TOP}"], -16)
        self.refused(SKATED + ["off 1"], "flood 1", -16)
        self.taken(SKATED + ["off 2"], "flood 1", 1)

    def test_a_million_litres_and_no_more(self):
        self.taken(START, "flood 1000000", 1000000)
        self.all_refused(START, ["flood 1000001", f"flood {TOP}"], -28)
        self.taken(START + ["flood 999999"], "flood 1", 1000000)
        self.refused(START + ["flood 999999"], "flood 2", -28)

    def test_what_was_drained_or_shaved_off_was_laid_too(self):
        self.refused(START + ["flood 1000000", "drain 1000000"], "flood 1", -28)
        gone = COLD + ["flood 100", "minutes 1", "shave 100"]
        self.taken(gone, "flood 999900", 999900)
        self.refused(gone, "flood 999901", -28)

    def test_a_refused_flood_is_not_counted_as_laid(self):
        self.assertEqual(play(START + ["flood 1000001", "flood 1000000"])[1:], [[-28], [1000000]])


class Shave(Refusals, unittest.TestCase):
    def test_the_ice_that_is_left_is_told(self):
        self.assertEqual(play(HARD + ["shave 1", "shave 18", "shave 1"])[-3:], [[19], [1], [0]])

    def test_what_is_shaved_off_is_neither_ice_nor_water(self):
        self.assertEqual(last(HARD + ["shave 7", "minutes 1"]), [2, 13, 0, 0])

    def test_nought_is_refused_ahead_of_all(self):
        self.refused(START, "shave 0", -22)
        self.refused(SKATED, "shave 0", -22)

    def test_somebody_on_it_is_told_ahead_of_too_little(self):
        self.all_refused(SKATED, ["shave 1", "shave 21", f"shave {TOP}"], -16)
        self.refused(SKATED + ["off 1"], "shave 1", -16)
        self.taken(SKATED + ["off 2"], "shave 1", 19)

    def test_more_than_there_is(self):
        self.all_refused(HARD, ["shave 21", f"shave {TOP}"], -12)
        self.taken(HARD, "shave 20", 0)

    def test_water_is_not_ice(self):
        self.refused(START + ["flood 9"], "shave 1", -12)


class Drain(Refusals, unittest.TestCase):
    def test_the_water_that_is_left_is_told(self):
        self.assertEqual(play(START + ["flood 9", "drain 1", "drain 7", "drain 1"])[-3:], [[8], [1], [0]])

    def test_what_is_drained_is_neither_ice_nor_water(self):
        self.assertEqual(last(COLD + ["flood 9", "drain 4", "minutes 1"]), [1, 5, 0, 0])

    def test_nought_is_refused(self):
        self.all_refused(START, ["drain 0"], -22)
        self.all_refused(SKATED, ["drain 0"], -22)

    def test_more_than_there_is(self):
        self.all_refused(START + ["flood 9"], ["drain 10", f"drain {TOP}"], -12)
        self.taken(START + ["flood 9"], "drain 9", 0)

    def test_ice_is_not_water(self):
        self.refused(HARD, "drain 1", -12)
        self.refused(SKATED, "drain 1", -12)

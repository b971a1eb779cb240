"""Point 4: pairs of skates."""

import unittest

from tests.helper import TOP, Refusals, last, play

START = ["start 0 0 1 1"]
THREE = START + ["pairs 4 3"]
BLUNT = THREE + ["hire 4", "hire 4", "bring 4 1", "bring 4 1"]


class Pairs(Refusals, unittest.TestCase):
    def test_all_of_the_size_are_told(self):
        self.assertEqual(play(START + ["pairs 4 3", "pairs 4 5", "pairs 5 2"])[1:], [[3], [8], [2]])

    def test_ten_sizes(self):
        for k in range(10):
            self.taken(START, f"pairs {k} 1", 1)
        self.all_refused(START, ["pairs 10 1", f"pairs {TOP} 1"], -2)

    def test_a_size_that_is_not_there_comes_first(self):
        self.all_refused(START, ["pairs 10 0", "pairs 10 101", f"pairs {TOP} {TOP}"], -2)

    def test_nought_is_refused(self):
        self.refused(START, "pairs 0 0", -22)
        self.refused(START + ["pairs 0 100"], "pairs 0 0", -22)

    def test_a_hundred_of_a_size(self):
        self.taken(START, "pairs 9 100", 100)
        self.all_refused(START, ["pairs 9 101", f"pairs 9 {TOP}"], -28)
        self.taken(THREE, "pairs 4 97", 100)
        self.refused(THREE, "pairs 4 98", -28)
        self.refused(START + ["pairs 9 100"], "pairs 9 1", -28)
        self.taken(START + ["pairs 9 100"], "pairs 8 100", 100)

    def test_those_hired_out_and_blunt_ones_count(self):
        mixed = THREE + ["hire 4", "hire 4", "bring 4 1"]
        self.taken(mixed, "pairs 4 97", 100)
        self.refused(mixed, "pairs 4 98", -28)

    def test_new_ones_are_sharp(self):
        self.assertEqual(last(THREE + ["hire 4"]), [2])
        self.refused(THREE, "sharpen 4 1", -12)


class Hire(Refusals, unittest.TestCase):
    def test_sharp_ones_that_are_there_are_told(self):
        self.assertEqual(play(THREE + ["hire 4", "hire 4", "hire 4"])[-3:], [[2], [1], [0]])

    def test_no_sharp_pair(self):
        self.all_refused(THREE, ["hire 3", "hire 5", "hire 0", "hire 9"], -12)
        self.refused(THREE + ["hire 4"] * 3, "hire 4", -12)

    def test_blunt_ones_are_not_hired_out(self):
        self.taken(BLUNT, "hire 4", 0)
        self.refused(BLUNT + ["hire 4"], "hire 4", -12)

    def test_a_size_that_is_not_there(self):
        self.all_refused(THREE, ["hire 10", f"hire {TOP}"], -2)


class Bring(Refusals, unittest.TestCase):
    def test_those_still_hired_out_are_told(self):
        self.assertEqual(play(THREE + ["hire 4"] * 3 + ["bring 4 1", "bring 4 0", "bring 4 1"])[-3:],
                         [[2], [1], [0]])

    def test_a_blunt_one_is_blunt(self):
        one = START + ["pairs 4 1", "hire 4", "bring 4 1"]
        self.refused(one, "hire 4", -12)
        self.taken(one, "sharpen 4 1", 1)

    def test_a_sharp_one_is_sharp(self):
        one = START + ["pairs 4 1", "hire 4", "bring 4 0"]
        self.taken(one, "hire 4", 0)
        self.refused(one, "sharpen 4 1", -12)

    def test_none_hired_out(self):
        self.all_refused(THREE, ["bring 4 0", "bring 4 1"], -6)
        self.refused(THREE + ["hire 4"], "bring 3 0", -6)
        self.refused(BLUNT, "bring 4 0", -6)

    def test_blunt_above_one_comes_ahead_of_none_hired_out(self):
        self.all_refused(THREE, ["bring 4 2", f"bring 4 {TOP}"], -22)
        self.refused(THREE + ["hire 4"], "bring 4 2", -22)

    def test_a_size_that_is_not_there_comes_first(self):
        self.all_refused(THREE + ["hire 4"], ["bring 10 0", "bring 10 2", f"bring {TOP} {TOP}"], -2)


class Sharpen(Refusals, unittest.TestCase):
    def test_sharp_ones_that_are_there_are_told(self):
        self.assertEqual(play(BLUNT + ["sharpen 4 1", "sharpen 4 1"])[-2:], [[2], [3]])
        self.taken(BLUNT, "sharpen 4 2", 3)

    def test_those_hired_out_are_not_told(self):
        self.taken(BLUNT + ["hire 4"], "sharpen 4 2", 2)

    def test_fewer_blunt_ones(self):
        self.all_refused(BLUNT, ["sharpen 4 3", f"sharpen 4 {TOP}", "sharpen 3 1"], -12)

    def test_sharpened_ones_are_not_blunt_any_more(self):
        self.refused(BLUNT + ["sharpen 4 2"], "sharpen 4 1", -12)
        self.refused(BLUNT + ["sharpen 4 1"], "sharpen 4 2", -12)

    def test_nought_is_refused(self):
        self.refused(BLUNT, "sharpen 4 0", -22)
        self.refused(START, "sharpen 0 0", -22)

    def test_a_size_that_is_not_there_comes_first(self):
        self.all_refused(BLUNT, ["sharpen 10 1", "sharpen 10 0", f"sharpen {TOP} 1"], -2)


class EachPair(unittest.TestCase):
    def test_a_hundred_go_round_and_none_is_lost(self):
        around = ["hire 7"] * 100 + ["bring 7 1"] * 60 + ["bring 7 0"] * 40 + ["sharpen 7 60"]
        told = play(START + ["pairs 7 100"] + around + ["pairs 7 1"])
        self.assertEqual(told[101], [0])
        self.assertEqual(told[201], [0])
        self.assertEqual(told[-2:], [[100], [-28]])

"""Point 8, of skates: a size looked at, and the nearest size."""

import random
import unittest

from tests.helper import TOP, Refusals, last, play

START = ["start 0 0 1 1"]
MIXED = START + ["pairs 4 9", "hire 4", "hire 4", "hire 4", "bring 4 1", "pairs 9 100", "hire 9", "pairs 0 1"]


def with_sharp(sizes):
    return START + [f"pairs {k} 1" for k in sizes]


class Size(Refusals, unittest.TestCase):
    def test_sharp_blunt_and_hired_out(self):
        self.asked(MIXED, "size 4", 9, 6, 1, 2)
        self.asked(MIXED + ["bring 4 0"], "size 4", 9, 7, 1, 1)
        self.asked(MIXED + ["bring 4 1"], "size 4", 9, 6, 2, 1)
        self.asked(MIXED + ["sharpen 4 1"], "size 4", 9, 7, 0, 2)
        self.asked(MIXED + ["pairs 4 2"], "size 4", 11, 8, 1, 2)

    def test_the_first_the_last_and_the_one_behind_it(self):
        self.asked(MIXED, "size 0", 1, 1, 0, 0)
        self.asked(MIXED, "size 9", 100, 99, 0, 1)
        self.all_refused(MIXED, ["size 10", f"size {TOP}"], -2)
        self.all_refused(START, ["size 10", f"size {TOP}"], -2)

    def test_a_size_without_pairs(self):
        for k in range(10):
            self.asked(START, f"size {k}", 0, 0, 0, 0)

    def test_each_size_by_itself(self):
        told = play(START + [f"pairs {k} {k + 1}" for k in range(10)] + [f"size {k}" for k in range(10)])
        self.assertEqual(told[11:], [[k + 1, k + 1, 0, 0] for k in range(10)])


class Nearest(Refusals, unittest.TestCase):
    def test_the_size_itself(self):
        everywhere = with_sharp(range(10))
        for k in range(10):
            self.asked(everywhere, f"nearest {k}", k)

    def test_the_one_that_differs_least(self):
        two = with_sharp((1, 6))
        for k, nearest in enumerate((1, 1, 1, 1, 6, 6, 6, 6, 6, 6)):
            self.asked(two, f"nearest {k}", nearest)

    def test_of_two_the_greater(self):
        self.asked(with_sharp((2, 6)), "nearest 4", 6)
        self.asked(with_sharp((6, 2)), "nearest 4", 6)
        self.asked(with_sharp((3, 5)), "nearest 4", 5)
        self.asked(with_sharp((0, 8)), "nearest 4", 8)
        self.asked(with_sharp((3, 6)), "nearest 4", 3)
        self.asked(with_sharp((3, 4, 5)), "nearest 4", 4)

    def test_from_end_to_end(self):
        self.asked(with_sharp((0,)), "nearest 9", 0)
        self.asked(with_sharp((9,)), "nearest 0", 9)

    def test_no_sharp_pair_of_any_size(self):
        for k in range(10):
            self.refused(START, f"nearest {k}", -33)

    def test_blunt_ones_and_hired_ones_do_not_count(self):
        out = START + ["pairs 4 1", "hire 4"]
        self.refused(out, "nearest 4", -33)
        self.refused(out + ["bring 4 1"], "nearest 4", -33)
        self.asked(out + ["bring 4 0"], "nearest 4", 4)
        self.asked(out + ["bring 4 1", "sharpen 4 1"], "nearest 4", 4)
        self.asked(out + ["pairs 9 1"], "nearest 4", 9)
        self.asked(out + ["bring 4 1", "pairs 9 1"], "nearest 4", 9)

    def test_a_size_that_is_not_there_comes_first(self):
        self.all_refused(START, ["nearest 10", f"nearest {TOP}"], -2)
        self.all_refused(with_sharp((9,)), ["nearest 10", f"nearest {TOP}"], -2)

    def test_as_every_size_looked_at(self):
        source = random.Random(9)
        for trial in range(150):
            sizes = source.sample(range(10), source.randint(1, 10))
            for k in range(10):
                nearest = min(sizes, key=lambda size: (abs(size - k), -size))
                self.assertEqual(last(with_sharp(sizes) + [f"nearest {k}"]), [nearest], (sizes, k))

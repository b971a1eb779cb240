"""Point 1: the start, and its bounds."""

import unittest

from tests.helper import PROBES, TOP, Refusals, last, play

BUSY = [
    "start 3 2 20 9", "machine 30 5", "machine 40 6", "run 1 1", "flood 50", "minutes 2", "shave 5", "go 4",
    "pairs 3 7", "hire 3", "hire 3", "bring 3 1", "gap 15", "ask 0 60 10", "ask 75 90 20", "ask 80 99 5", "book",
]


class Start(Refusals, unittest.TestCase):
    def test_each_number_at_its_edges_is_taken(self):
        for text in ("start 0 0 1 1", "start 1000 100 100000 500", "start 1000 0 1 1", "start 0 100 1 1",
                     "start 0 0 100000 1", "start 0 0 1 500"):
            self.taken([], text, 0)

    def test_each_number_beyond_its_edges_is_refused(self):
        wrong = ["start 1001 0 1 1", "start 0 101 1 1", "start 0 0 0 1", "start 0 0 100001 1", "start 0 0 1 0",
                 "start 0 0 1 501", f"start {TOP} 0 1 1", f"start 0 {TOP} 1 1", f"start 0 0 {TOP} 1",
                 f"start 0 0 1 {TOP}", "start 0 0 0 0", f"start {TOP} {TOP} {TOP} {TOP}"]
        self.all_refused(BUSY, wrong, -22)

    def test_a_first_start_may_be_refused_and_tried_again(self):
        self.assertEqual(play(["start 1001 0 1 1", "start 0 0 1 0", "start 1 1 1 1", "machine 1 0"]),
                         [[-22], [-22], [0], [0]])

    def test_a_refused_start_keeps_what_an_earlier_one_set(self):
        ahead = ["start 0 0 5 2", "machine 9 0", "run 0 1", "flood 5", "minutes 1"]
        self.assertEqual(play(ahead + ["start 0 0 1 501", "go 3", "go 2", "minutes 1"])[5:],
                         [[-22], [-28], [2], [2, 5, 0, 2]])

    def test_behind_another_start_all_is_as_at_first(self):
        new = ["start 3 2 20 9"]
        self.assertEqual(play(BUSY + new + PROBES)[len(BUSY):], play(new + PROBES))

    def test_another_start_brings_its_own_numbers(self):
        on_hard = ["machine 1000 0", "run 0 1", "flood 6", "minutes 1"]
        self.assertEqual(play(["start 0 0 6 1"] + on_hard + ["go 2"])[-1], [-28])
        self.assertEqual(play(["start 0 0 6 1", "start 0 0 6 2"] + on_hard + ["go 2"])[-1], [2])
        self.assertEqual(play(["start 0 0 6 2", "start 0 0 7 2"] + on_hard + ["go 2"])[-1], [-13])
        self.assertEqual(last(["start 0 0 1 1", "start 7 0 1 1", "machine 9 0", "run 0 1", "flood 10", "minutes 1"]),
                         [1, 2, 8, 0])

    def test_at_first_nothing_is_there(self):
        start = ["start 0 0 1 1"]
        for text, number in (("run 0 1", -2), ("shave 1", -12), ("drain 1", -12), ("go 1", -13), ("off 1", -12),
                             ("hire 0", -12), ("bring 0 0", -6), ("sharpen 0 1", -12), ("book", -6), ("drop 0", -2)):
            self.refused(start, text, number)
        self.assertEqual(play(start + ["gap 0", "minutes 1"])[1:], [[0], [1, 0, 0, 0]])

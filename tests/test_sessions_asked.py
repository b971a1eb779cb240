"""Point 7: whether sessions would fit, the best day, who has a minute, and a session looked at."""

import random
import unittest

from tests.helper import TOP, Refusals, last, play
from tests.test_sessions import EIGHT, ONE, START, all_fit, brute_best, some_sessions

BOOKED = START + ["ask 60 90 7", "ask 80 100 6", "ask 90 95 0", "ask 100 1440 9", "book"]


class Would(Refusals, unittest.TestCase):
    def test_none_of_them(self):
        self.asked(START, "would 0", 1, 0)
        self.asked(BOOKED, "would 0", 1, 0)

    def test_one_by_itself_fits(self):
        self.asked(ONE, "would 1", 1, 7)
        self.asked(BOOKED, "would 2", 1, 6)
        self.asked(BOOKED, "would 8", 1, 9)

    def test_all_that_are_there(self):
        self.asked(EIGHT, "would 255", 1, 28)
        self.asked(EIGHT, "would 128", 1, 7)
        self.asked(EIGHT + ["gap 1"], "would 255", 0, 28)
        self.asked(BOOKED, "would 15", 0, 22)

    def test_one_that_is_not_there(self):
        self.all_refused(START, ["would 1", "would 2", "would 128", f"would {2 ** 31}", f"would {TOP}"], -22)
        self.all_refused(ONE, ["would 2", "would 3", "would 256", f"would {2 ** 31 + 1}", f"would {TOP}"], -22)
        self.all_refused(EIGHT, ["would 256", "would 257", "would 511", "would 65536", f"would {2 ** 31}",
                                 f"would {TOP}"], -22)

    def test_those_that_just_fit_and_just_do_not(self):
        for gap in (0, 1, 30, 120):
            for first, second in (("ask 5 10 3", f"ask {10 + gap} 200 4"), (f"ask {10 + gap} 200 4", "ask 5 10 3")):
                self.asked(START + [f"gap {gap}", first, second], "would 3", 1, 7)
            for first, second in (("ask 5 10 3", f"ask {9 + gap} 200 4"), (f"ask {9 + gap} 200 4", "ask 5 10 3")):
                self.asked(START + [f"gap {gap}", first, second], "would 3", 0, 7)

    def test_any_two_of_them_must_fit(self):
        asked = START + ["ask 0 10 1", "ask 10 20 2", "ask 5 7 4"]
        for bits, numbers in ((3, (1, 3)), (5, (0, 5)), (6, (1, 6)), (7, (0, 7))):
            self.asked(asked, f"would {bits}", *numbers)

    def test_those_that_are_not_named_do_not_matter(self):
        self.asked(START + ["ask 0 10 1", "ask 0 10 2", "ask 10 20 4"], "would 6", 1, 6)

    def test_whether_they_are_booked_does_not_matter(self):
        for ahead in (BOOKED, BOOKED[:-1], BOOKED + ["drop 0"]):
            self.asked(ahead, "would 9", 1, 16)
            self.asked(ahead, "would 3", 0, 13)

    def test_the_most_fees(self):
        self.asked(START + ["ask 0 1440 100000"] * 8, "would 255", 0, 800000)

    def test_as_every_two_looked_at(self):
        source = random.Random(7)
        for trial in range(60):
            gap, sessions = some_sessions(source, source.randint(1, 8))
            ahead = START + [f"gap {gap}"] + ["ask %d %d %d" % session for session in sessions]
            every = range(1 << len(sessions))
            told = play(ahead + [f"would {bits}" for bits in every])[len(ahead):]
            for bits, answer in zip(every, told, strict=True):
                chosen = [session for k, session in enumerate(sessions) if bits >> k & 1]
                self.assertEqual(answer, [int(all_fit(gap, chosen)), sum(session[2] for session in chosen)])


class Best(Refusals, unittest.TestCase):
    def test_none_is_asked_for(self):
        self.refused(START, "best", -6)
        self.refused(START + ["gap 3"], "best", -6)

    def test_the_best_day_and_nothing_is_booked(self):
        asked = START + ["ask 0 60 5", "ask 30 90 7", "ask 90 99 1", "ask 60 90 1"]
        self.asked(asked, "best", 8, 0b0110)
        self.assertEqual(play(asked + ["best", "look 1", "money", "gap 3"])[-3:],
                         [[7, 30, 90, 0], [0, 0, 0, 0], [0]])

    def test_what_is_booked_stays_so(self):
        asked = START + ["ask 0 60 5", "book", "ask 30 90 7"]
        self.asked(asked, "best", 7, 2)
        self.assertEqual(play(asked + ["best", "look 0", "look 1"])[-2:], [[5, 0, 60, 1], [7, 30, 90, 0]])
        self.asked(BOOKED + ["drop 0"], "best", 16, 0b1001)

    def test_with_the_gap(self):
        asked = START + ["ask 0 10 1", "ask 15 20 2"]
        self.asked(asked + ["gap 5"], "best", 3, 3)
        self.asked(asked + ["gap 6"], "best", 2, 2)

    def test_of_like_ones_the_least_as_bits(self):
        self.asked(START + ["ask 0 10 4", "ask 0 10 4"], "best", 4, 1)
        self.asked(START + ["ask 0 10 2", "ask 10 20 2", "ask 0 20 4"], "best", 4, 3)
        self.asked(START + ["ask 0 10 0"], "best", 0, 0)

    def test_as_it_would_be_booked(self):
        source = random.Random(8)
        for trial in range(80):
            gap, sessions = some_sessions(source, source.randint(1, 8))
            ahead = START + [f"gap {gap}"] + ["ask %d %d %d" % session for session in sessions]
            best, booked = play(ahead + ["best", "book"])[-2:]
            self.assertEqual(best, booked)
            self.assertEqual(best, brute_best(gap, sessions))


class Who(Refusals, unittest.TestCase):
    def test_first_minute_last_and_the_one_it_is_up_to(self):
        alone = START + ["ask 60 90 7", "book"]
        self.refused(alone, "who 59", -6)
        self.asked(alone, "who 60", 0, 30)
        self.asked(alone, "who 61", 0, 29)
        self.asked(alone, "who 89", 0, 1)
        self.refused(alone, "who 90", -6)
        self.refused(alone, "who 0", -6)

    def test_one_behind_another(self):
        both = START + ["ask 90 100 3", "ask 60 90 7", "book"]
        self.asked(both, "who 89", 1, 1)
        self.asked(both, "who 90", 0, 10)

    def test_the_first_and_last_minute_of_the_day(self):
        whole = START + ["ask 0 1440 7", "book"]
        self.asked(whole, "who 0", 0, 1440)
        self.asked(whole, "who 1439", 0, 1)
        self.all_refused(whole, ["who 1440", "who 1441", f"who {TOP}"], -22)

    def test_what_is_wrong_is_told_ahead_of_none(self):
        self.refused(START, "who 1439", -6)
        self.all_refused(START, ["who 1440", f"who {TOP}"], -22)
        self.all_refused(ONE, ["who 1440", f"who {TOP}"], -22)

    def test_sessions_that_are_not_booked_do_not_count(self):
        self.refused(ONE, "who 60", -6)
        self.asked(BOOKED, "who 85", 0, 5)
        self.refused(BOOKED, "who 95", -6)
        self.refused(BOOKED, "who 92", -6)
        self.asked(BOOKED, "who 100", 3, 1340)
        self.refused(BOOKED + ["drop 3"], "who 100", -6)
        self.asked(BOOKED + ["drop 3"], "who 85", 0, 5)

    def test_the_gap_belongs_to_none(self):
        spaced = START + ["gap 20", "ask 0 10 1", "ask 30 40 1", "book"]
        self.asked(spaced, "who 9", 0, 1)
        self.all_refused(spaced, ["who 10", "who 29"], -6)
        self.asked(spaced, "who 30", 1, 10)

    def test_the_last_of_eight(self):
        self.asked(EIGHT + ["book"], "who 79", 7, 1)
        self.refused(EIGHT + ["book"], "who 80", -6)


class Look(Refusals, unittest.TestCase):
    def test_the_first_the_last_and_the_one_behind_it(self):
        self.asked(BOOKED, "look 0", 7, 60, 90, 1)
        self.asked(BOOKED, "look 3", 9, 100, 1440, 1)
        self.all_refused(BOOKED, ["look 4", f"look {TOP}"], -2)
        self.asked(EIGHT, "look 7", 7, 70, 80, 0)
        self.all_refused(EIGHT, ["look 8", f"look {TOP}"], -2)
        self.all_refused(START, ["look 0", f"look {TOP}"], -2)

    def test_booked_or_not(self):
        self.asked(BOOKED, "look 1", 6, 80, 100, 0)
        self.asked(BOOKED, "look 2", 0, 90, 95, 0)
        self.asked(BOOKED + ["drop 0"], "look 0", 7, 60, 90, 0)
        self.asked(BOOKED + ["drop 0", "book"], "look 0", 7, 60, 90, 1)
        self.asked(ONE, "look 0", 7, 60, 90, 0)

    def test_the_edges_of_what_may_be_asked_for(self):
        self.assertEqual(last(START + ["ask 0 1440 100000", "look 0"]), [100000, 0, 1440, 0])
        self.assertEqual(last(START + ["ask 1439 1440 0", "look 0"]), [0, 1439, 1440, 0])

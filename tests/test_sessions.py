"""Point 5: the gap, sessions that are asked for, the best day, and what is booked."""

import itertools
import random
import unittest

from tests.helper import TOP, Refusals, last, play

START = ["start 0 0 1 1"]
ONE = START + ["ask 60 90 7"]
EIGHT = START + [f"ask {k * 10} {k * 10 + 10} {k}" for k in range(8)]


def booked(gap, sessions):
    texts = START + [f"gap {gap}"] + [f"ask {begin} {end} {fee}" for begin, end, fee in sessions]
    return last(texts + ["book"])


def all_fit(gap, chosen):
    return all(a[0] - b[1] >= gap or b[0] - a[1] >= gap for a, b in itertools.combinations(chosen, 2))


def brute_best(gap, sessions):
    """Every set, as the words tell it."""
    best = None
    for bits in range(1 << len(sessions)):
        chosen = [session for k, session in enumerate(sessions) if bits >> k & 1]
        if all_fit(gap, chosen):
            fees = sum(session[2] for session in chosen)
            if best is None or fees > best[0]:
                best = [fees, bits]
    return best


def some_sessions(source, count):
    """A gap and so many sessions, now and then of like fees."""
    span = source.choice((30, 200, 1440))
    sessions = []
    for k in range(count):
        begin = source.randrange(span)
        end = min(1440, begin + 1 + source.randrange(span))
        sessions.append((begin, end, source.choice((0, 1, 2, 3, source.randrange(100001)))))
    return source.choice((0, 1, 5, 60, 120)), sessions


class Gap(Refusals, unittest.TestCase):
    def test_what_it_was_is_told(self):
        self.assertEqual(play(START + ["gap 5", "gap 5", "gap 0", "gap 120", "gap 1"])[1:],
                         [[0], [5], [5], [0], [120]])

    def test_at_its_edge(self):
        self.taken(START, "gap 120", 0)
        self.all_refused(START + ["gap 9"], ["gap 121", f"gap {TOP}"], -22)

    def test_not_while_a_session_is_booked(self):
        self.taken(ONE, "gap 5", 0)
        self.all_refused(ONE + ["book"], ["gap 0", "gap 5", "gap 120"], -16)
        self.all_refused(ONE + ["book"], ["gap 121", f"gap {TOP}"], -22)
        self.taken(ONE + ["book", "drop 0"], "gap 5", 0)

    def test_one_of_several_booked_is_enough(self):
        self.refused(EIGHT + ["book", "drop 1", "drop 2", "drop 3", "drop 4", "drop 5", "drop 6"], "gap 1", -16)


class Ask(Refusals, unittest.TestCase):
    def test_sessions_are_numbered_from_nought_up_to_eight_of_them(self):
        self.assertEqual(play(EIGHT)[1:], [[k] for k in range(8)])
        self.refused(EIGHT, "ask 0 1 1", -28)

    def test_what_is_wrong_is_told_ahead_of_eight(self):
        self.all_refused(EIGHT, ["ask 1 1 1", "ask 0 1441 1", "ask 0 1 100001"], -22)

    def test_to_is_later_than_from(self):
        self.taken(START, "ask 9 10 1", 0)
        self.all_refused(START, ["ask 10 10 1", "ask 11 10 1", "ask 0 0 1", f"ask {TOP} 5 1"], -22)

    def test_to_is_no_more_than_the_day(self):
        self.taken(START, "ask 1439 1440 1", 0)
        self.taken(START, "ask 0 1440 1", 0)
        self.all_refused(START, ["ask 0 1441 1", "ask 1440 1441 1", "ask 1440 1440 1", f"ask 0 {TOP} 1",
                                 f"ask {TOP - 1} {TOP} 1"], -22)

    def test_the_fee_at_its_edges(self):
        self.taken(START, "ask 0 1 0", 0)
        self.taken(START, "ask 0 1 100000", 0)
        self.all_refused(START, ["ask 0 1 100001", f"ask 0 1 {TOP}"], -22)

    def test_a_new_one_is_not_booked(self):
        self.refused(ONE, "drop 0", -6)
        self.refused(ONE + ["book", "ask 90 91 5"], "drop 1", -6)

    def test_sessions_that_do_not_fit_may_be_asked_for(self):
        self.assertEqual(play(START + ["ask 0 9 1", "ask 0 9 1", "ask 3 5 1"])[1:], [[0], [1], [2]])


class Book(Refusals, unittest.TestCase):
    def test_none_is_asked_for(self):
        self.refused(START, "book", -6)
        self.refused(START + ["gap 3"], "book", -6)

    def test_just_those_of_the_best_day_are_booked(self):
        asked = START + ["ask 0 60 5", "ask 30 90 7", "ask 90 99 1", "ask 60 90 1"]
        self.taken(asked, "book", 8, 0b0110)
        for k, number in enumerate((-6, 7, 1, -6)):
            self.assertEqual(last(asked + ["book", f"drop {k}"]), [number])

    def test_those_that_are_not_of_it_any_more_are_not_booked(self):
        asked = START + ["ask 0 60 5", "book", "ask 30 90 7", "book"]
        self.assertEqual(play(asked + ["drop 0", "drop 1"])[-3:], [[7, 2], [-6], [7]])

    def test_those_that_were_dropped_are_booked_again(self):
        self.assertEqual(play(ONE + ["book", "drop 0", "book", "drop 0"])[2:], [[7, 1], [7], [7, 1], [7]])

    def test_without_a_gap_one_may_begin_at_the_others_end(self):
        self.assertEqual(booked(0, [(0, 10, 1), (10, 20, 1)]), [2, 3])
        self.assertEqual(booked(0, [(10, 20, 1), (0, 10, 1)]), [2, 3])
        self.assertEqual(booked(0, [(0, 10, 1), (9, 20, 1)]), [1, 1])
        self.assertEqual(booked(0, [(9, 20, 1), (0, 10, 1)]), [1, 1])

    def test_with_a_gap_begins_that_just_fit_and_just_do_not(self):
        for gap in (1, 15, 120):
            self.assertEqual(booked(gap, [(0, 10, 1), (10 + gap, 200, 2)]), [3, 3])
            self.assertEqual(booked(gap, [(10 + gap, 200, 2), (0, 10, 1)]), [3, 3])
            self.assertEqual(booked(gap, [(0, 10, 1), (9 + gap, 200, 2)]), [2, 2])
            self.assertEqual(booked(gap, [(9 + gap, 200, 2), (0, 10, 1)]), [2, 1])

    def test_one_within_another_does_not_fit(self):
        self.assertEqual(booked(0, [(0, 100, 3), (40, 50, 2)]), [3, 1])
        self.assertEqual(booked(0, [(40, 50, 3), (0, 100, 2)]), [3, 1])
        self.assertEqual(booked(0, [(0, 10, 3), (0, 10, 4)]), [4, 2])

    def test_any_two_must_fit_not_only_neighbours(self):
        self.assertEqual(booked(0, [(0, 100, 5), (100, 110, 5), (90, 120, 9)]), [10, 3])

    def test_many_small_ones_against_a_great_one(self):
        small = [(k * 10, k * 10 + 10, 10) for k in range(7)]
        self.assertEqual(booked(0, small + [(0, 1440, 69)]), [70, 0b01111111])
        self.assertEqual(booked(0, small + [(0, 1440, 71)]), [71, 0b10000000])
        self.assertEqual(booked(1, small + [(0, 1440, 1)]), [40, 0b01010101])

    def test_of_like_ones_the_least_as_bits(self):
        self.assertEqual(booked(0, [(0, 10, 4), (0, 10, 4)]), [4, 1])
        self.assertEqual(booked(0, [(0, 10, 2), (10, 20, 2), (0, 20, 4)]), [4, 3])
        self.assertEqual(booked(0, [(0, 20, 4), (0, 10, 2), (10, 20, 2)]), [4, 1])
        self.assertEqual(booked(0, [(0, 10, 3), (20, 30, 3), (0, 10, 3), (20, 30, 3)]), [6, 3])
        self.assertEqual(booked(0, [(0, 30, 6), (20, 30, 3), (0, 10, 3)]), [6, 1])

    def test_sessions_without_a_fee_bring_nothing(self):
        self.assertEqual(booked(0, [(0, 10, 0)]), [0, 0])
        self.assertEqual(booked(0, [(0, 10, 0), (10, 20, 5), (20, 30, 0)]), [5, 2])
        self.refused(START + ["ask 0 10 0", "book"], "drop 0", -6)
        self.taken(START + ["ask 0 10 0", "book"], "gap 3", 0)

    def test_eight_of_the_most(self):
        self.assertEqual(booked(120, [(k * 180, k * 180 + 60, 100000) for k in range(8)]), [800000, 255])

    def test_the_gap_in_force_is_that_of_the_booking(self):
        asked = START + ["ask 0 10 1", "ask 10 20 2", "book", "drop 0", "drop 1", "gap 1", "book"]
        self.assertEqual(last(asked), [2, 2])

    def test_as_every_set_looked_at(self):
        source = random.Random(5)
        for count in [1, 2, 3, 4, 5, 6, 7, 8] * 25:
            gap, sessions = some_sessions(source, count)
            self.assertEqual(booked(gap, sessions), brute_best(gap, sessions), (gap, sessions))


class Drop(Refusals, unittest.TestCase):
    def test_its_fee_is_told(self):
        self.assertEqual(play(EIGHT + ["book", "drop 7", "drop 3"])[-3:], [[28, 254], [7], [3]])

    def test_it_is_not_booked_any_more(self):
        self.refused(ONE + ["book", "drop 0"], "drop 0", -6)

    def test_it_is_asked_for_still(self):
        self.refused(EIGHT + ["book", "drop 7"], "ask 0 1 1", -28)

    def test_one_that_is_not_there(self):
        self.all_refused(ONE + ["book"], ["drop 1", "drop 8", f"drop {TOP}"], -2)
        self.all_refused(EIGHT + ["book"], ["drop 8"], -2)
        self.refused(START, "drop 0", -2)

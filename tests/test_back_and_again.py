"""Point 10, and what point 1 says of changes: taken back, and done again."""

import unittest

from tests.helper import ASKS, TOP, Refusals, last, play

START = ["start 10 3 50 20"]
# A rink on which each change can be made.
READY = START + [
    "machine 30 4", "machine 9 2", "run 0 1", "flood 100", "minutes 5", "flood 7", "minutes 1", "pairs 4 3", "hire 4",
    "hire 4", "bring 4 1", "gap 5", "ask 60 90 7", "ask 80 100 6", "ask 200 300 9", "book",
]
# Each call of point 1's list, with what comes ahead of it, more than READY.
CHANGES = (
    ([], "machine 7 8"), ([], "run 1 1"), ([], "run 0 0"), ([], "flood 12"), ([], "shave 3"), (["flood 9"], "drain 4"),
    ([], "minutes 8"), (["go 20"], "minutes 1"), (["go 20"], "minutes 3"), (["run 0 0"], "minutes 2"), ([], "go 2"),
    (["go 6"], "off 5"), ([], "pairs 4 10"), ([], "pairs 0 1"), ([], "hire 4"), ([], "bring 4 1"), ([], "bring 4 0"),
    ([], "sharpen 4 1"), (["drop 0", "drop 2"], "gap 8"), ([], "ask 0 5 3"), (["drop 0"], "book"),
    (["ask 300 400 90"], "book"), ([], "drop 2"),
)
# Changes that leave all that can be asked as it is, but are changes.
SAME = (([], "book"), (["drop 0", "drop 2"], "gap 5"))
NAMES_OF_CHANGES = {
    "machine", "run", "flood", "shave", "drain", "minutes", "go", "off", "pairs", "hire", "bring", "sharpen", "gap",
    "ask", "book", "drop",
}


def all_asked(texts):
    """What all asks answer behind these, without how many changes are kept."""
    told = play(texts + ASKS)[len(texts):]
    at = ASKS.index("state")
    told[at] = told[at][:4]
    return told


def changes_kept(texts):
    return last(texts + ["state"])[4:]


class EachChange(unittest.TestCase):
    def test_all_of_the_list_are_looked_at(self):
        self.assertEqual({text.split()[0] for ahead, text in CHANGES}, NAMES_OF_CHANGES)
        for ahead, text in CHANGES + SAME:
            self.assertGreaterEqual(min(part[0] for part in play(READY + ahead + [text])), 0, text)

    def test_back_and_again_over_each(self):
        for ahead, text in CHANGES + SAME:
            before = READY + ahead
            made = before + [text]
            if (ahead, text) in CHANGES and text.split()[0] != "gap":
                self.assertNotEqual(all_asked(before), all_asked(made), text)
            self.assertEqual(all_asked(made + ["back"]), all_asked(before), text)
            self.assertEqual(all_asked(made + ["back", "again"]), all_asked(made), text)
            self.assertEqual(all_asked(made + ["back", "again", "back"]), all_asked(before), text)

    def test_the_gap_is_what_it_was(self):
        ahead = READY + ["drop 0", "drop 2", "gap 8"]
        self.assertEqual(last(ahead + ["gap 0"]), [8])
        self.assertEqual(last(ahead + ["back", "gap 0"]), [5])
        self.assertEqual(last(ahead + ["back", "again", "gap 0"]), [8])

    def test_each_is_one_change(self):
        for ahead, text in CHANGES + SAME:
            before = READY + ahead
            count = len(before) - 1
            self.assertEqual(changes_kept(before), [count, 0])
            self.assertEqual(changes_kept(before + [text]), [count + 1, 0], text)
            self.assertEqual(changes_kept(before + [text, "back"]), [count, 1], text)
            self.assertEqual(changes_kept(before + [text, "back", "again"]), [count + 1, 0], text)

    def test_what_goes_on_behind_them_is_the_same(self):
        on = ["minutes 3", "go 1", "hire 4", "flood 5", "minutes 1", "machine 3 3", "run 1 1", "book", "drop 0"]
        for ahead, text in CHANGES + SAME:
            before = READY + ahead
            self.assertEqual(play(before + [text, "back"] + on)[-9:], play(before + on)[-9:], text)
            self.assertEqual(play(before + [text, "back", "again"] + on)[-9:], play(before + [text] + on)[-9:], text)

    def test_a_rink_that_was_taken_back_is_not_changed_by_a_later_change(self):
        """What is changed behind a taking back is taken back too, to the very same."""
        for ahead, text in CHANGES:
            before = READY + ahead
            for other in ("minutes 4", "pairs 4 2", "machine 5 5", "ask 7 8 9", "book"):
                self.assertEqual(all_asked(before + [text, "back", other, "back"]), all_asked(before), (text, other))
                self.assertEqual(all_asked(before + [text, "back", "again", other, "back"]),
                                 all_asked(before + [text]), (text, other))
                self.assertEqual(all_asked(before + [text, "back", "again", other, "back", "back"]),
                                 all_asked(before), (text, other))


class Back(Refusals, unittest.TestCase):
    def test_none_to_take_back(self):
        self.refused(START, "back", -2)
        self.refused(START + ["flood 1", "back"], "back", -2)
        self.refused(START + ["flood 0", "hire 10", "ice", "state"], "back", -2)

    def test_how_many_can_still_be(self):
        self.assertEqual(play(START + ["flood 1"] * 4 + ["back"] * 5)[5:], [[3], [2], [1], [0], [-2]])

    def test_the_last_one_is_taken_back(self):
        made = START + ["flood 1", "flood 20", "machine 3 3"]
        told = play(made + ["back", "state", "ice", "back", "ice", "back", "ice"])
        self.assertEqual(told[4:], [[2], [0, 0, 0, 0, 2, 1], [0, 21, 0, 0], [1], [0, 1, 0, 0], [0], [0, 0, 0, 0]])

    def test_all_the_way_step_by_step(self):
        for count in range(len(READY), 0, -1):
            self.assertEqual(all_asked(READY + ["back"] * (len(READY) - count)), all_asked(READY[:count]))

    def test_just_thirty_changes(self):
        thirty = START + ["flood 1"] * 30
        self.assertEqual(changes_kept(thirty), [30, 0])
        self.assertEqual(play(thirty + ["back"] * 31)[31:], [[k] for k in range(29, -1, -1)] + [[-2]])
        self.assertEqual(last(thirty + ["back"] * 30 + ["ice"]), [0, 0, 0, 0])
        self.assertEqual(changes_kept(START + ["flood 1"] * 29), [29, 0])

    def test_more_than_thirty(self):
        for more in (1, 2, 30, 100, 900):
            many = START + ["flood 1"] * (30 + more)
            self.assertEqual(changes_kept(many), [30, 0])
            self.assertEqual(play(many + ["back"] * 31)[-31:], [[k] for k in range(29, -1, -1)] + [[-2]])
            self.assertEqual(last(many + ["back"] * 31 + ["ice"]), [0, more, 0, 0])

    def test_behind_taking_back_there_are_as_many_fewer(self):
        many = START + ["flood 1"] * 40 + ["back"] * 10
        self.assertEqual(changes_kept(many), [20, 10])
        self.assertEqual(changes_kept(many + ["flood 1"]), [21, 0])
        self.assertEqual(changes_kept(many + ["flood 1"] * 11), [30, 0])
        self.assertEqual(last(many + ["flood 1"] * 11 + ["back"] * 30 + ["ice"]), [0, 11, 0, 0])

    def test_minutes_are_one_change_however_many(self):
        ahead = READY + ["go 20"]
        self.assertEqual(all_asked(ahead + ["minutes 1440", "back"]), all_asked(ahead))

    def test_what_was_taken_back_may_be_made_anew(self):
        self.assertEqual(play(START + ["flood 1000000", "flood 1", "back", "flood 1000000"])[1:],
                         [[1000000], [-28], [0], [1000000]])
        late = START + ["minutes 1440"] * 34 + ["minutes 1040"]
        self.assertEqual(play(late + ["minutes 1", "back", "minutes 1040"])[-3:], [[-75], [29], [50000, 0, 0, 0]])


class Again(Refusals, unittest.TestCase):
    def test_none_to_be_done_again(self):
        self.refused(START, "again", -2)
        self.refused(READY, "again", -2)
        self.refused(READY + ["back", "again"], "again", -2)

    def test_how_many_there_still_are(self):
        told = play(START + ["flood 1"] * 4 + ["back"] * 3 + ["again"] * 4)
        self.assertEqual(told[8:], [[2], [1], [0], [-2]])

    def test_the_one_that_was_taken_back_last_comes_first(self):
        made = START + ["flood 1", "flood 20", "machine 3 3"]
        told = play(made + ["back"] * 3 + ["again", "ice"] * 2 + ["again", "state"])
        self.assertEqual(told[7:], [[2], [0, 1, 0, 0], [1], [0, 21, 0, 0], [0], [0, 1, 0, 0, 3, 0]])

    def test_all_the_way_step_by_step(self):
        back = READY + ["back"] * (len(READY) - 1)
        for count in range(len(READY)):
            self.assertEqual(all_asked(back + ["again"] * count), all_asked(READY[:1 + count]))

    def test_thirty_again(self):
        for count in (30, 31, 200):
            many = START + ["flood 1"] * count
            back = many + ["back"] * 31
            self.assertEqual(play(back + ["again"] * 31)[-31:], [[k] for k in range(29, -1, -1)] + [[-2]])
            self.assertEqual(last(back + ["again"] * 30 + ["ice"]), [0, count, 0, 0])
            self.assertEqual(changes_kept(back), [0, 30])
            self.assertEqual(changes_kept(back + ["again"] * 30), [30, 0])
            self.assertEqual(last(back + ["again"] * 30 + ["back"] * 31 + ["ice"]), [0, count - 30, 0, 0])

    def test_a_change_behind_back_leaves_nothing_to_be_done_again(self):
        for ahead, text in CHANGES + SAME:
            before = READY + ahead + ["pairs 8 1", "pairs 8 1", "back", "back"]
            self.assertEqual(changes_kept(before)[1], 2)
            self.assertEqual(changes_kept(before + [text])[1], 0, text)
            self.refused(before + [text], "again", -2)

    def test_a_change_behind_again_leaves_nothing_either(self):
        before = START + ["flood 1"] * 5 + ["back"] * 3 + ["again"]
        self.assertEqual(changes_kept(before), [3, 2])
        self.assertEqual(changes_kept(before + ["flood 7"]), [4, 0])
        self.refused(before + ["flood 7"], "again", -2)

    def test_what_was_left_behind_does_not_come_again(self):
        told = play(START + ["flood 1", "flood 2", "back", "flood 50", "back", "again", "ice", "again"])
        self.assertEqual(told[-3:], [[0], [0, 51, 0, 0], [-2]])


class LeftAsTheyAre(Refusals, unittest.TestCase):
    BOTH = READY + ["back", "back", "back", "back"]

    def test_a_refused_call_leaves_both(self):
        count = len(READY) - 1
        self.assertEqual(changes_kept(self.BOTH), [count - 4, 4])
        wrong = (
            ("start 1001 0 1 1", -22), ("machine 0 0", -22), ("run 2 1", -2), ("run 0 2", -22), ("run 0 1", -17),
            ("flood 0", -22), ("flood 1000000", -28), ("shave 0", -22), ("shave 108", -12), ("drain 0", -22),
            ("drain 1", -12), ("minutes 0", -22), (f"minutes {TOP}", -22), ("go 0", -22), ("go 21", -28),
            ("off 0", -22), ("off 1", -12), ("pairs 10 1", -2), ("pairs 4 0", -22), ("pairs 4 98", -28),
            ("hire 10", -2), ("hire 3", -12),
            ("bring 10 0", -2), ("bring 4 2", -22), ("bring 3 0", -6), ("sharpen 10 1", -2), ("sharpen 4 0", -22),
            ("sharpen 4 2", -12), ("gap 121", -22), ("ask 1 1 1", -22), ("book", -6), ("drop 0", -2),
            ("cheapest 501", -22), ("cheapest 500", -33), ("would 1", -22), ("best", -6), ("who 1440", -22),
            ("who 60", -6), ("look 0", -2), ("size 10", -2), ("nearest 10", -2),
        )
        for text, number in wrong:
            self.refused(self.BOTH, text, number)
            self.assertEqual(changes_kept(self.BOTH + [text]), [count - 4, 4], text)

    def test_a_call_that_only_asks_leaves_both(self):
        for text in ASKS:
            self.assertEqual(play(self.BOTH + [text, "state", "again", "again"])[-3:],
                             play(self.BOTH + ["state", "again", "again"])[-3:], text)
            self.assertEqual(all_asked(self.BOTH + [text] + ["again"] * 4), all_asked(READY), text)

    def test_a_refused_back_and_again_leave_both(self):
        self.refused(START + ["flood 1", "flood 2", "back", "back"], "back", -2)
        self.assertEqual(play(START + ["flood 1", "back", "back", "again", "again", "back"])[2:],
                         [[0], [-2], [0], [-2], [0]])

    def test_a_start_that_answers_nought_leaves_neither(self):
        for ahead in (READY, self.BOTH, START + ["flood 1"] * 50):
            for text in ("back", "again"):
                self.refused(ahead + START, text, -2)
            self.asked(ahead + START, "state", 0, 0, 0, 0, 0, 0)
            self.assertEqual(all_asked(ahead + START), all_asked(START))

    def test_a_refused_start_leaves_all(self):
        for text in ("start 1001 0 1 1", "start 0 101 1 1", "start 0 0 0 1", "start 0 0 1 501", f"start 0 0 {TOP} 1"):
            self.refused(self.BOTH, text, -22)
            self.assertEqual(all_asked(self.BOTH + [text] + ["again"] * 4), all_asked(READY))
            self.assertEqual(all_asked(self.BOTH + [text] + ["back"] * 3), all_asked(READY[:-7]))

    def test_a_start_is_no_change(self):
        self.assertEqual(play(START + ["flood 3"] + START + ["flood 1", "back", "back", "ice"])[-3:],
                         [[0], [-2], [0, 0, 0, 0]])


class State(Refusals, unittest.TestCase):
    def test_at_first(self):
        self.asked(START, "state", 0, 0, 0, 0, 0, 0)

    def test_machines_sessions_pairs_and_changes(self):
        self.asked(READY, "state", 6, 2, 3, 3, 16, 0)
        self.asked(READY + ["back"] * 2, "state", 6, 2, 2, 3, 14, 2)
        self.asked(READY + ["back"] * 16, "state", 0, 0, 0, 0, 0, 16)

    def test_pairs_of_all_sizes_hired_out_and_blunt_ones_too(self):
        self.asked(READY + ["pairs 0 10", "pairs 9 100", "hire 9"], "state", 6, 2, 3, 113, 19, 0)
        self.asked(START + [f"pairs {k} 100" for k in range(10)], "state", 0, 0, 0, 1000, 10, 0)

    def test_machines_that_run_or_not_and_sessions_booked_or_not(self):
        self.asked(READY + ["run 0 0", "drop 0"], "state", 6, 2, 3, 3, 18, 0)

    def test_the_most(self):
        full = START + ["machine 1 1"] * 6 + ["ask 0 1 1"] * 8 + ["minutes 1440"] * 34 + ["minutes 1040"]
        self.asked(full, "state", 50000, 6, 8, 0, 30, 0)

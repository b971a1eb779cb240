"""How calls are handed in, and what is given back."""

import unittest

from icerink.rink import answers

CALLS = [0, 10, 3, 50, 20, 1, 30, 4, 2, 0, 1, 3, 100, 6, 5, 7, 2, 6, 0, 13, 4, 14, 0, 9, 6, 15, 16, 1]
TOLD = [1, 0, 1, 0, 1, 30, 1, 100, 4, 5, 100, 0, 0, 1, 2, 1, -22, 1, 0, 1, 0, 2, 6, 1, 1, -2]


class Untouchable(list):
    """Fails as soon as it is changed, even for a while."""

    def change(self, *given):
        raise AssertionError("what was handed in is changed")

    append = clear = extend = insert = pop = remove = reverse = sort = change
    __setitem__ = __delitem__ = __iadd__ = __imul__ = change


class Interface(unittest.TestCase):
    def test_how_many_numbers_then_these(self):
        self.assertEqual(answers(CALLS), TOLD)

    def test_a_call_without_out_gives_one_number(self):
        self.assertEqual(answers([0, 0, 0, 1, 1]), [1, 0])

    def test_minutes_give_three_more(self):
        self.assertEqual(answers([0, 0, 0, 1, 1, 3, 8, 6, 2]), [1, 0, 1, 8, 4, 2, 0, 8, 0])

    def test_a_booking_gives_one_more(self):
        self.assertEqual(answers([0, 0, 0, 1, 1, 14, 0, 9, 6, 14, 9, 10, 5, 15])[6:], [2, 11, 3])

    def test_refusals_give_their_number_alone(self):
        self.assertEqual(answers([0, 0, 0, 1, 1, 6, 0, 15, 7, 1]), [1, 0, 1, -22, 1, -6, 1, -13])

    def test_each_call_takes_as_many_numbers_as_told(self):
        start = [0, 0, 0, 1, 1]
        for call in ([0, 1, 1, 1, 1], [1, 1, 1], [2, 9, 1], [3, 1], [4, 1], [5, 1], [6, 1], [7, 1], [8, 1], [9, 0, 1],
                     [10, 0], [11, 0, 0], [12, 0, 1], [13, 1], [14, 0, 1, 1], [15], [16, 0]):
            told = answers(start + call + [0, 1001, 0, 1, 1])
            self.assertEqual(told[:2] + told[-2:], [1, 0, 1, -22], call)
            self.assertEqual(len(told), 5 + told[2], call)

    def test_a_list_of_whole_numbers(self):
        told = answers(CALLS)
        self.assertIs(type(told), list)
        self.assertTrue(all(type(number) is int for number in told))

    def test_what_is_handed_in_is_not_changed(self):
        handed = list(CALLS)
        answers(handed)
        self.assertEqual(handed, CALLS)
        self.assertEqual(answers(Untouchable(CALLS)), TOLD)

    def test_nothing_is_kept_from_one_time_to_the_next(self):
        other = [0, 0, 0, 1, 1, 1, 5, 5, 9, 3, 100, 13, 7, 14, 1, 2, 3, 15, 3, 1000000]
        first = answers(other)
        self.assertEqual(answers(CALLS), TOLD)
        self.assertEqual(answers(other), first)
        self.assertEqual(answers(CALLS), TOLD)

    def test_what_is_given_back_is_new_each_time(self):
        told = answers(CALLS)
        told.clear()
        self.assertEqual(answers(CALLS), TOLD)

    def test_a_thousand_calls(self):
        self.assertEqual(len(answers([0, 0, 0, 1, 1] + [6, 50] * 999)), 2 + 999 * 5)
        self.assertEqual(answers([0, 0, 0, 1, 1] * 1000), [1, 0] * 1000)

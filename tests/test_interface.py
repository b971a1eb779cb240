"""How calls are handed in, and what is given back."""

import unittest

from icerink.rink import answers
from tests.helper import parted

# How many numbers each call is given, by the call's number.
GIVEN = (4, 2, 2, 1, 1, 1, 1, 1, 1, 2, 1, 2, 2, 1, 3, 0, 1, 0, 0, 0, 1, 1, 0, 1, 1, 1, 1, 0, 0, 0, 0, 0, 0, 0)
READY = [0, 10, 3, 50, 20, 1, 30, 4, 2, 0, 1, 3, 100, 6, 5, 7, 2, 9, 3, 3, 10, 3, 11, 3, 1, 10, 3, 14, 0, 9, 6, 15]
# Each call from 17 on, and what is given back for it behind READY; 32 behind 31 alone.
ASKED = (
    ([17], [3, 1, 1, 1]), ([18], [1, 0]), ([19], [1, 6]), ([20, 0], [3, 4, 1, 30]), ([21, 1], [2, 1, 6]),
    ([22], [2, 6, 1]), ([23, 8], [2, 0, 1]), ([24, 0], [4, 6, 0, 9, 1]), ([25, 3], [4, 3, 1, 1, 1]), ([26, 9], [1, 3]),
    ([27], [4, 100, 0, 2, 5]), ([28], [3, 30, 16, 4]), ([29], [5, 100, 100, 0, 0, 0]), ([30], [4, 20, 6, 1, 0]),
    ([33], [6, 5, 1, 1, 3, 11, 0]), ([31], [1, 10]), ([32], [1, 0]),
)
CALLS = [0, 10, 3, 50, 20, 1, 30, 4, 2, 0, 1, 3, 100, 6, 5, 7, 2, 6, 0, 13, 4, 14, 0, 9, 6, 15, 16, 1]
TOLD = [1, 0, 1, 0, 1, 30, 1, 100, 4, 5, 100, 0, 0, 1, 2, 1, -22, 1, 0, 1, 0, 2, 6, 1, 1, -2]


class Untouchable(list):
    """Fails as soon as it is changed, even for a while."""

    def change(self, *given):
        raise AssertionError("what was handed in is changed")

    append = clear = extend = insert = pop = remove = reverse = sort = change
    __setitem__ = __delitem__ = __iadd__ = __imul__ = change


class Interface(unittest.TestCase):
    def test_how_many_numbers_then_these(self):
        self.assertEqual(answers(CALLS), TOLD)

    def test_a_call_without_out_gives_one_number(self):
        self.assertEqual(answers([0, 0, 0, 1, 1]), [1, 0])

    def test_minutes_give_three_more(self):
        self.assertEqual(answers([0, 0, 0, 1, 1, 3, 8, 6, 2]), [1, 0, 1, 8, 4, 2, 0, 8, 0])

    def test_a_booking_gives_one_more(self):
        self.assertEqual(answers([0, 0, 0, 1, 1, 14, 0, 9, 6, 14, 9, 10, 5, 15])[6:], [2, 11, 3])

    def test_each_later_call_gives_as_many_as_its_list_has(self):
        ahead = answers(READY)
        for call, told in ASKED[:-1]:
            self.assertEqual(answers(READY + call), ahead + told, call)
        every = [number for call, told in ASKED for number in call]
        self.assertEqual(answers(READY + every), ahead + [number for call, told in ASKED for number in told])

    def test_refusals_give_their_number_alone(self):
        self.assertEqual(answers([0, 0, 0, 1, 1, 6, 0, 15, 7, 1]), [1, 0, 1, -22, 1, -6, 1, -13])
        calls = [18, 19, 20, 501, 20, 0, 21, 1, 22, 23, 1440, 23, 0, 24, 0, 25, 10, 26, 10, 26, 0, 31, 32]
        self.assertEqual(parted(answers([0, 1, 0, 1, 1] + calls))[1:],
                         [[-33], [-33], [-22], [-33], [-22], [-6], [-22], [-6], [-2], [-2], [-2], [-33], [-2], [-2]])

    def test_each_call_takes_as_many_numbers_as_told(self):
        start = [0, 0, 0, 1, 1]
        self.assertEqual(len(GIVEN), 34)
        for number, count in enumerate(GIVEN):
            told = answers(start + [number] + [1] * count + [0, 1001, 0, 1, 1])
            self.assertEqual(told[:2] + told[-2:], [1, 0, 1, -22], number)
            self.assertEqual(len(told), 5 + told[2], number)

    def test_a_list_of_whole_numbers(self):
        for calls in [CALLS] + [READY + call for call, told in ASKED[:-1]]:
            told = answers(calls)
            self.assertIs(type(told), list)
            self.assertTrue(all(type(number) is int for number in told), calls)

    def test_what_is_handed_in_is_not_changed(self):
        handed = list(CALLS)
        answers(handed)
        self.assertEqual(handed, CALLS)
        self.assertEqual(answers(Untouchable(CALLS)), TOLD)
        for call, told in ASKED[:-1]:
            self.assertEqual(answers(Untouchable(READY + call))[-len(told):], told)

    def test_nothing_is_kept_from_one_time_to_the_next(self):
        other = [0, 0, 0, 1, 1, 1, 5, 5, 9, 3, 100, 13, 7, 14, 1, 2, 3, 15, 3, 1000000]
        first = answers(other)
        self.assertEqual(answers(CALLS), TOLD)
        self.assertEqual(answers(other), first)
        self.assertEqual(answers(CALLS), TOLD)

    def test_changes_of_one_time_are_not_taken_back_another(self):
        answers(READY + [31, 31])
        self.assertEqual(answers([0, 0, 0, 1, 1, 31, 32, 33]), [1, 0, 1, -2, 1, -2, 6, 0, 0, 0, 0, 0, 0])

    def test_what_is_given_back_is_new_each_time(self):
        told = answers(CALLS)
        told.clear()
        self.assertEqual(answers(CALLS), TOLD)

    def test_a_thousand_calls_and_five_thousand_numbers(self):
        self.assertEqual(len(answers([0, 0, 0, 1, 1] + [6, 50] * 999)), 2 + 999 * 5)
        self.assertEqual(answers([0, 0, 0, 1, 1] * 1000), [1, 0] * 1000)

    def test_a_thousand_of_each_call(self):
        for number, count in enumerate(GIVEN):
            told = answers(READY[:5] + ([number] + [1] * count) * 999)
            self.assertEqual(len(parted(told)), 1000, number)

    def test_a_thousand_calls_that_take_back_and_do_again(self):
        told = parted(answers([0, 0, 0, 1, 1] + [3, 1, 31, 32] * 333))
        self.assertEqual(len(told), 1000)
        for k in range(333):
            self.assertEqual(told[3 * k + 1:3 * k + 4], [[k + 1], [min(k, 29)], [0]])

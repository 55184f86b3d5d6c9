"""What holds of a whole list of calls and of the list that is given back."""

import time
import unittest

from dollshelf.dolls import UnknownCall, answers
from helper import (APART, DEEP, EIGHT, FEWEST, HOLDS, NARROWEST, NESTINGS, SEARCHES, TOWER, Unchanging, doll, flat,
                    lay, out, put, state_calls)

# Every call, some of them refused, and nestings laid before others change them.
MANY = flat(DEEP + state_calls(4) + [out(1), put(9, 0)] + SEARCHES
            + [lay([2, 3, 0, 0]), put(2, 3), out(0), lay([3, 3, 0, 0]), lay([0] * 20), doll(30, 20), put(3, 4), HOLDS])


class WholeListTest(unittest.TestCase):
    def test_counts_stand_ahead_of_each_answer(self):
        calls = [0, 10, 8, 0, 5, 2, 3, 1, 1, 0, 3, 4, 5, 0, 6, 0, 2, 1, 4]
        self.assertEqual(answers(calls), [
            1, 0,
            1, 1,
            3, 2, 0, 0,
            1, 1,
            3, 2, 0, 1,
            3, 1, 0, 10,
            2, 1, 1,
            2, 1, 1,
            1, 2,
            4, 2, 0, 1, 15,
        ])

    def test_counts_stand_ahead_of_what_is_searched_and_laid(self):
        calls = [7, 0, 10, 8, 7, 0, 5, 2, 0, 7, 2, 7, 8, 9, 10, 11, 12, 3, 0, 1, 0, 3, 12, 1, 0, 4, 1, 2, 1, 5, 0]
        self.assertEqual(answers(calls), [
            2, 0, 1,
            1, 0,
            3, 1, 1, 0,
            1, 1,
            1, 2,
            5, 2, 2, 0, 0, 1,
            5, 15, 1, 0, 0, 1,
            1, 3,
            3, 2, 0, 1,
            3, 2, 1, 2,
            1, 2,
            4, 3, 0, 1, 0,
            1, -1,
            4, 2, 0, 2, 17,
            1, -6,
            2, 1, 1,
        ])

    def test_count_of_a_refusal_is_one(self):
        self.assertEqual(answers([2, 0, 0, 1, 1, 5, 7, 12, 2, 0, 0, 3]), [1, -2, 1, -1, 1, -2, 1, -1, 1, 0])

    def test_each_call_may_be_first(self):
        self.assertEqual(answers([0, 2, 1]), [1, 0])
        self.assertEqual(answers([1, 0, 1]), [1, -2])
        self.assertEqual(answers([2, 0]), [1, -2])
        self.assertEqual(answers([3]), [1, 0])
        self.assertEqual(answers([4]), [2, 0, 0])
        self.assertEqual(answers([5, 0]), [1, -2])
        self.assertEqual(answers([6, 0]), [1, -2])
        self.assertEqual(answers([7]), [2, 0, 1])
        self.assertEqual(answers([8]), [2, 0, 1])
        self.assertEqual(answers([9]), [1, 1])
        self.assertEqual(answers([10]), [1, 0])
        self.assertEqual(answers([11]), [1, 0])
        self.assertEqual(answers([12, 0]), [1, 0])
        self.assertEqual(answers([12, 1, 0]), [1, -1])

    def test_numbers_of_a_nesting_are_not_taken_for_calls(self):
        self.assertEqual(answers([12, 5, 3, 3, 3, 3, 3, 3]), [1, -1, 1, 0])
        self.assertEqual(answers([12, 20] + [12] * 20 + [12, 0, 9]), [1, -1, 1, 0, 1, 1])

    def test_forty_calls(self):
        calls = [0, 100, 99] * 8 + [3] * 32
        self.assertEqual(
            answers(calls),
            [1, 0, 1, 1, 1, 2, 1, 3, 1, 4, 1, 5, 1, 6, 1, 7] + [9, 8, 0, 0, 0, 0, 0, 0, 0, 0] * 32)

    def test_greatest_list(self):
        # 40 calls with 20 numbers each: as long as a list of calls may be.
        calls = [12, 20] + [4294967295] * 20
        self.assertEqual(len(calls * 40), 880)
        self.assertEqual(answers(calls * 40), [1, -1] * 40)

    def test_forty_calls_with_the_longest_searches_in_good_time(self):
        longest = [FEWEST, NARROWEST, NESTINGS, FEWEST, NARROWEST, NESTINGS, FEWEST, NARROWEST]
        chain = [2, 3, 4, 5, 6, 7, 8, 0]
        calls = EIGHT + longest + [TOWER, APART, lay(chain)] * 8
        self.assertEqual(len(calls), 40)
        begun = time.monotonic()
        told = answers(flat(calls))
        self.assertLess(time.monotonic() - begun, 10)
        fewest, narrowest, nestings = [10, 1, 1] + chain, [10, 17, 1] + chain, [1, 4140]
        self.assertEqual(told[16:], (fewest + narrowest + nestings) * 2 + fewest + narrowest
                         + ([9, 8, 7, 6, 5, 4, 3, 2, 1, 0] + [2, 1, 0] + [1, 1]) * 8)

    def test_what_is_handed_in_stays_as_it_was(self):
        calls = list(MANY)
        answers(calls)
        self.assertEqual(calls, MANY)

    def test_what_is_handed_in_is_not_changed_for_a_while_either(self):
        self.assertEqual(answers(Unchanging(MANY)), answers(MANY))

    def test_second_time_answers_as_the_first(self):
        first = answers(MANY)
        kept = list(first)
        self.assertEqual(answers(MANY), kept)
        first.append(7)
        self.assertEqual(answers(MANY), kept)
        self.assertEqual(answers([3, 4, 7, 10]), [1, 0, 2, 0, 0, 2, 0, 1, 1, 0])

    def test_answers_are_whole_numbers_in_a_list(self):
        told = answers(MANY)
        self.assertIs(type(told), list)
        self.assertEqual({type(number) for number in told}, {int})

    def test_number_of_no_call(self):
        for call in (13, 14, 4294967295):
            with self.assertRaises(UnknownCall):
                answers([call])


if __name__ == "__main__":
    unittest.main()

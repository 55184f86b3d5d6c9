"""What the call lay answers, what it refuses, and what is held behind it."""

import unittest

from helper import DEEP, EIGHT, FOUR, GREATEST, HOLDS, SHELF, CallCase, ask, doll, fits, lay, out, put, within


class LaidTest(CallCase):
    def test_no_doll_at_all(self):
        self.assertEqual(ask(lay([]), HOLDS, SHELF), [[0], [0], [0, 0]])

    def test_one_doll(self):
        self.assertEqual(ask(doll(7, 3), lay([0]), HOLDS), [[0], [1], [1, 0]])

    def test_answers_how_many_are_on_the_shelf_then(self):
        told = ask(*FOUR, lay([0, 0, 0, 0]), lay([0, 0, 4, 0]), lay([2, 0, 4, 0]), lay([2, 3, 4, 0]))[4:]
        self.assertEqual(told, [[4], [3], [2], [1]])

    def test_it_is_held_from_now_on(self):
        told = ask(*FOUR, lay([3, 0, 4, 0]), HOLDS, SHELF, within(3), within(2), within(1), fits(2))[4:]
        self.assertEqual(told, [[2], [4, 3, 0, 4, 0], [2, 1, 3, 25], [2, 2, 0], [1, 0], [0], [2, 0, 1]])

    def test_what_was_held_is_gone(self):
        self.assertEqual(ask(*DEEP, lay([0, 4, 0, 0]), HOLDS, within(3), within(2))[7:],
                         [[3], [4, 0, 4, 0, 0], [1, 1], [0]])
        self.assertEqual(ask(*DEEP, lay([0, 0, 0, 0]), HOLDS)[7:], [[4], [4, 0, 0, 0, 0]])

    def test_what_is_held_may_be_laid_again(self):
        self.assertEqual(ask(*DEEP, lay([2, 3, 4, 0]), HOLDS)[7:], [[1], [4, 2, 3, 4, 0]])

    def test_into_a_doll_of_a_lower_number(self):
        told = ask(doll(20, 10), doll(8, 6), doll(5, 3), lay([0, 1, 2]), within(0))[3:]
        self.assertEqual(told, [[1], [2, 1, 2]])

    def test_into_a_doll_that_is_in_no_other(self):
        told = ask(doll(9, 4), doll(4, 1), doll(9, 4), doll(4, 1), lay([0, 3, 0, 1]), within(0), within(2))[4:]
        self.assertEqual(told, [[2], [1, 3], [1, 1]])

    def test_eight_one_within_another(self):
        self.assertEqual(ask(*EIGHT, lay([2, 3, 4, 5, 6, 7, 8, 0]), within(7))[8:], [[1], [7, 6, 5, 4, 3, 2, 1, 0]])

    def test_outer_just_as_great_as_the_inner(self):
        self.assertEqual(ask(doll(6, 1), doll(10, 6), lay([2, 0]), HOLDS)[2:], [[1], [2, 2, 0]])


class BehindItTest(CallCase):
    def test_put_on_it(self):
        told = ask(*FOUR, lay([2, 0, 0, 0]), put(0, 3), put(2, 1), put(1, 2), HOLDS, SHELF, within(2))[4:]
        self.assertEqual(told, [[3], [-4], [-3], [2], [4, 2, 3, 0, 0], [2, 2, 3, 28], [2, 1, 0]])

    def test_out_on_it(self):
        told = ask(*FOUR, lay([2, 3, 4, 0]), out(3), out(1), out(1), HOLDS, SHELF, within(3), within(1))[4:]
        self.assertEqual(told, [[1], [-9], [2], [-9], [4, 2, 0, 4, 0], [2, 1, 3, 25], [1, 2], [1, 0]])

    def test_a_doll_that_comes_then_stands_on_the_shelf(self):
        told = ask(*FOUR, lay([2, 3, 4, 0]), doll(50, 40), HOLDS, SHELF, put(3, 4), HOLDS)[4:]
        self.assertEqual(told, [[1], [4], [5, 2, 3, 4, 0, 0], [2, 3, 4, 70], [1], [5, 2, 3, 4, 5, 0]])

    def test_a_doll_that_comes_then_needs_a_place_in_the_next(self):
        told = ask(*FOUR, lay([2, 3, 4, 0]), doll(50, 40), lay([2, 3, 4, 0]), lay([2, 3, 4, 5, 0]), HOLDS)[4:]
        self.assertEqual(told, [[1], [4], [-1], [1], [5, 2, 3, 4, 5, 0]])

    def test_what_is_changed_behind_it_is_not_in_the_next_that_is_laid(self):
        told = ask(*FOUR, lay([2, 0, 0, 0]), put(1, 2), lay([2, 0, 0, 0]), HOLDS)[4:]
        self.assertEqual(told, [[3], [2], [3], [4, 2, 0, 0, 0]])


class RefusedTest(CallCase):
    def check_no_nesting(self, nesting):
        for before in (FOUR, DEEP, FOUR + [lay([4, 3, 0, 0])]):
            with self.subTest(nesting=nesting, before=before):
                self.check_refused(before, lay(nesting), -1, 4)

    def test_no_doll_at_all(self):
        for nesting in ([0], [1], [0, 0], [0] * 20, [GREATEST]):
            with self.subTest(nesting=nesting):
                self.check_refused([], lay(nesting), -1, 0)

    def test_one_doll(self):
        for nesting in ([], [1], [2], [GREATEST], [0, 0], [0] * 20):
            with self.subTest(nesting=nesting):
                self.check_refused([doll(100, 99)], lay(nesting), -1, 1)

    def test_shorter_than_there_are_dolls(self):
        for nesting in ([], [0], [0, 0, 0], [2, 3, 4]):
            self.check_no_nesting(nesting)

    def test_longer_than_there_are_dolls(self):
        for nesting in ([0] * 5, [2, 3, 4, 0, 0], [2, 3, 4, 0, 4], [0] * 20, [2, 3, 4, 0] * 5):
            self.check_no_nesting(nesting)

    def test_eight_dolls_and_twenty_numbers(self):
        self.check_refused(EIGHT, lay([0] * 7), -1, 8)
        self.check_refused(EIGHT, lay([0] * 9), -1, 8)
        self.check_refused(EIGHT, lay([0] * 20), -1, 8)

    def test_greater_than_there_are_dolls(self):
        for number in (5, 6, 9, 255, 2 ** 31, GREATEST):
            for place in range(4):
                nesting = [0, 0, 0, 0]
                nesting[place] = number
                self.check_no_nesting(nesting)

    def test_a_doll_in_itself(self):
        for nesting in ([1, 0, 0, 0], [0, 2, 0, 0], [0, 0, 3, 0], [0, 0, 0, 4], [2, 3, 4, 4]):
            self.check_no_nesting(nesting)

    def test_into_one_into_which_it_does_not_go(self):
        for nesting in ([0, 1, 0, 0], [0, 0, 1, 0], [0, 0, 2, 0], [0, 0, 0, 1], [0, 0, 0, 3], [2, 0, 0, 3]):
            self.check_no_nesting(nesting)

    def test_outer_one_greater_than_the_inner(self):
        self.check_refused([doll(7, 1), doll(10, 6)], lay([2, 0]), -1, 2)

    def test_one_in_the_other_and_the_other_in_it(self):
        for nesting in ([2, 1, 0, 0], [0, 0, 4, 3], [2, 3, 1, 0], [2, 3, 4, 1]):
            self.check_no_nesting(nesting)

    def test_two_in_the_same_one(self):
        for nesting in ([3, 3, 0, 0], [4, 4, 0, 0], [4, 0, 4, 0], [0, 4, 4, 0], [2, 4, 4, 0], [4, 4, 4, 0]):
            self.check_no_nesting(nesting)

    def test_two_in_the_same_one_far_from_each_other(self):
        dolls = [doll(20, 10), doll(50, 20), doll(5, 1), doll(60, 50), doll(6, 1)]
        self.check_refused(dolls, lay([2, 4, 1, 0, 1]), -1, 5)

    def test_the_next_call_is_read_behind_all_its_numbers(self):
        self.assertEqual(ask(*FOUR, lay([3] * 20), lay([2, 3, 4, 0]), lay([]), HOLDS)[4:],
                         [[-1], [1], [-1], [4, 2, 3, 4, 0]])


if __name__ == "__main__":
    unittest.main()

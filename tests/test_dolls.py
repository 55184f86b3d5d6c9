"""What the calls doll, put, out, holds, shelf, within and fits answer."""

import unittest

from helper import DEEP, EIGHT, FOUR, GREATEST, HOLDS, SHELF, CallCase, ask, doll, fits, out, put, within


class DollTest(CallCase):
    def test_numbered_as_they_come(self):
        self.assertEqual(ask(doll(9, 4), doll(3, 1), doll(9, 4)), [[0], [1], [2]])

    def test_new_doll_is_on_the_shelf(self):
        self.assertEqual(self.last(doll(9, 4), doll(3, 1), put(1, 0), doll(3, 2), HOLDS), [3, 0, 1, 0])

    def test_outer_at_the_edges(self):
        for outer, expected in [(0, -1), (1, -1), (2, 0), (3, 0), (99, 0), (100, 0), (101, -1), (GREATEST, -1)]:
            with self.subTest(outer=outer):
                self.assertEqual(ask(doll(outer, 1)), [[expected]])

    def test_inner_at_the_edges(self):
        for outer in (2, 3, 50, 100):
            for inner, expected in [(0, -1), (1, 0), (outer - 1, 0), (outer, -1), (outer + 1, -1), (GREATEST, -1)]:
                with self.subTest(outer=outer, inner=inner):
                    self.assertEqual(ask(doll(outer, inner)), [[expected]])

    def test_outer_too_great_with_a_fitting_inner(self):
        self.assertEqual(ask(doll(101, 100)), [[-1]])
        self.assertEqual(ask(doll(GREATEST, GREATEST - 1)), [[-1]])
        self.assertEqual(ask(doll(GREATEST, GREATEST)), [[-1]])
        self.assertEqual(ask(doll(1, 0)), [[-1]])
        self.assertEqual(ask(doll(0, 0)), [[-1]])

    def test_wrong_sizes_change_nothing(self):
        for call in (doll(1, 1), doll(101, 5), doll(7, 0), doll(7, 7), doll(GREATEST, 1), doll(7, GREATEST)):
            with self.subTest(call=call):
                self.check_refused(DEEP, call, -1, 4)

    def test_refused_doll_takes_no_number(self):
        self.assertEqual(ask(doll(1, 1), doll(4, 2), doll(4, 4), doll(4, 3)), [[-1], [0], [-1], [1]])

    def test_eighth_and_ninth(self):
        self.assertEqual(ask(*EIGHT), [[0], [1], [2], [3], [4], [5], [6], [7]])
        self.check_refused(EIGHT, doll(2, 1), -5, 8)

    def test_ninth_while_some_are_in_others(self):
        self.check_refused(EIGHT + [put(0, 1), put(1, 2)], doll(2, 1), -5, 8)

    def test_wrong_sizes_are_told_ahead_of_too_many(self):
        self.check_refused(EIGHT, doll(101, 1), -1, 8)
        self.check_refused(EIGHT, doll(2, 2), -1, 8)


class PutTest(CallCase):
    def test_answers_how_many_are_on_the_shelf_then(self):
        self.assertEqual(ask(*DEEP)[4:], [[3], [2], [1]])

    def test_first_is_in_the_other(self):
        self.assertEqual(self.last(*FOUR, put(1, 3), HOLDS), [4, 0, 4, 0, 0])
        self.assertEqual(self.last(*FOUR, put(1, 3), SHELF), [3, 0, 2, 3, 31])

    def test_what_is_in_the_first_goes_with_it(self):
        self.assertEqual(self.last(*FOUR, put(0, 1), put(1, 3), HOLDS), [4, 2, 4, 0, 0])

    def test_into_one_that_is_in_another(self):
        self.assertEqual(ask(*FOUR, put(2, 3), put(1, 2), HOLDS)[4:], [[3], [2], [4, 0, 3, 4, 0]])

    def test_into_one_numbered_higher_or_lower(self):
        self.assertEqual(ask(doll(9, 5), doll(4, 1), put(1, 0), HOLDS)[2:], [[1], [2, 0, 1]])
        self.assertEqual(ask(doll(4, 1), doll(9, 5), put(0, 1), HOLDS)[2:], [[1], [2, 2, 0]])

    def test_outer_just_as_great_as_the_inner(self):
        self.assertEqual(self.last(doll(6, 5), doll(7, 6), put(0, 1)), [1])
        self.assertEqual(self.last(doll(99, 1), doll(100, 99), put(0, 1)), [1])
        self.assertEqual(self.last(doll(2, 1), doll(3, 2), put(0, 1)), [1])

    def test_outer_one_greater_than_the_inner(self):
        self.check_refused([doll(7, 5), doll(8, 6)], put(0, 1), -6, 2)
        self.check_refused([doll(2, 1), doll(3, 1)], put(0, 1), -6, 2)

    def test_inner_of_the_first_does_not_count(self):
        self.check_refused([doll(9, 2), doll(10, 5)], put(0, 1), -6, 2)

    def test_same_sizes_do_not_go_into_one_another(self):
        self.check_refused([doll(9, 8), doll(9, 8)], put(0, 1), -6, 2)
        self.check_refused([doll(9, 8), doll(9, 8)], put(1, 0), -6, 2)

    def test_no_such_doll(self):
        for call in (put(4, 0), put(0, 4), put(4, 5), put(GREATEST, 0), put(0, GREATEST)):
            with self.subTest(call=call):
                self.check_refused(FOUR, call, -2, 4)

    def test_no_doll_at_all(self):
        self.check_refused([], put(0, 0), -2, 0)
        self.check_refused([], put(0, 1), -2, 0)

    def test_one_and_the_same(self):
        for number in range(4):
            self.check_refused(FOUR, put(number, number), -1, 4)

    def test_first_is_in_one_already(self):
        self.check_refused(FOUR + [put(0, 1)], put(0, 2), -4, 4)

    def test_one_is_in_the_other_already(self):
        self.check_refused(FOUR + [put(0, 2)], put(1, 2), -3, 4)

    def test_the_other_is_free_again_behind_out(self):
        self.assertEqual(self.last(*FOUR, put(0, 2), out(0), put(1, 2)), [3])

    def test_none_is_told_ahead_of_all(self):
        self.check_refused(FOUR, put(4, 4), -2, 4)
        self.check_refused(FOUR, put(GREATEST, GREATEST), -2, 4)
        self.check_refused(DEEP, put(0, 4), -2, 4)
        self.check_refused(DEEP, put(4, 1), -2, 4)

    def test_the_same_is_told_ahead_of_the_rest(self):
        # 1 is in 2, 0 is in 1, and 1 does not go into itself.
        self.check_refused(DEEP, put(1, 1), -1, 4)
        # Only in one already; only with one in it.
        self.check_refused(DEEP, put(0, 0), -1, 4)
        self.check_refused(DEEP, put(3, 3), -1, 4)

    def test_in_one_already_is_told_ahead_of_one_in_the_other(self):
        # 0 is in 1 already; 2 has one in it, and so has 1.
        self.check_refused(DEEP, put(0, 2), -4, 4)
        self.check_refused(DEEP, put(0, 1), -4, 4)

    def test_in_one_already_is_told_ahead_of_not_going_in(self):
        self.check_refused(FOUR + [put(2, 3)], put(2, 1), -4, 4)

    def test_one_in_the_other_is_told_ahead_of_not_going_in(self):
        # 3 is on the shelf, 0 is in 1, and 3 does not go into 1.
        self.check_refused(FOUR + [put(0, 1)], put(3, 1), -3, 4)

    def test_into_one_that_is_in_the_first(self):
        # Nothing is in 0, so it is only that 1 does not go into it.
        self.check_refused(FOUR + [put(0, 1)], put(1, 0), -6, 4)
        # 0 is in 1, so 1 has one in it already.
        self.check_refused(FOUR + [put(0, 1), put(1, 2)], put(2, 1), -3, 4)


class OutTest(CallCase):
    def test_answers_how_many_are_on_the_shelf_then(self):
        self.assertEqual(ask(*DEEP, out(0), out(1), out(2))[7:], [[2], [3], [4]])

    def test_what_is_in_it_stays_in_it(self):
        told = ask(*DEEP, out(1), HOLDS, SHELF, within(1), within(3))[7:]
        self.assertEqual(told, [[2], [4, 2, 0, 4, 0], [2, 1, 3, 25], [1, 0], [1, 2]])

    def test_can_be_put_again(self):
        self.assertEqual(ask(*DEEP, out(2), put(2, 3), HOLDS)[7:], [[2], [1], [4, 2, 3, 4, 0]])

    def test_no_such_doll(self):
        for number in (4, 5, GREATEST):
            self.check_refused(DEEP, out(number), -2, 4)
        self.check_refused([], out(0), -2, 0)

    def test_on_the_shelf(self):
        self.check_refused(FOUR, out(2), -9, 4)

    def test_on_the_shelf_with_others_in_it(self):
        self.check_refused(DEEP, out(3), -9, 4)

    def test_a_second_time(self):
        self.check_refused(DEEP + [out(1)], out(1), -9, 4)


class HoldsTest(CallCase):
    def test_no_doll_at_all(self):
        self.assertEqual(ask(HOLDS), [[0]])

    def test_all_on_the_shelf_at_first(self):
        self.assertEqual(self.last(*FOUR, HOLDS), [4, 0, 0, 0, 0])
        self.assertEqual(self.last(*EIGHT, HOLDS), [8, 0, 0, 0, 0, 0, 0, 0, 0])

    def test_one_more_than_the_number_of_the_doll_around(self):
        self.assertEqual(self.last(*DEEP, HOLDS), [4, 2, 3, 4, 0])
        self.assertEqual(self.last(doll(9, 5), doll(4, 1), put(1, 0), HOLDS), [2, 0, 1])

    def test_eight_one_within_another(self):
        puts = [put(number, number + 1) for number in range(7)]
        self.assertEqual(self.last(*EIGHT, *puts, HOLDS), [8, 2, 3, 4, 5, 6, 7, 8, 0])


class ShelfTest(CallCase):
    def test_no_doll_at_all(self):
        self.assertEqual(ask(SHELF), [[0, 0]])

    def test_all_on_the_shelf(self):
        self.assertEqual(self.last(*FOUR, SHELF), [4, 0, 1, 2, 3, 36])

    def test_width_is_of_those_on_the_shelf_alone(self):
        self.assertEqual(self.last(*FOUR, put(1, 2), SHELF), [3, 0, 2, 3, 31])
        self.assertEqual(self.last(*DEEP, SHELF), [1, 3, 20])

    def test_numbers_rise_whatever_came_out_last(self):
        self.assertEqual(self.last(*DEEP, out(2), out(0), SHELF), [3, 0, 2, 3, 31])

    def test_greatest_width(self):
        self.assertEqual(self.last(*[doll(100, 1)] * 8, SHELF), [8, 0, 1, 2, 3, 4, 5, 6, 7, 800])


class WithinTest(CallCase):
    def test_nothing_in_it(self):
        self.assertEqual(self.last(*FOUR, within(3)), [0])
        self.assertEqual(self.last(*DEEP, within(0)), [0])

    def test_outermost_first(self):
        told = ask(*DEEP, within(3), within(2), within(1))[7:]
        self.assertEqual(told, [[3, 2, 1, 0], [2, 1, 0], [1, 0]])

    def test_outermost_first_where_numbers_rise_inward(self):
        dolls = [doll(20, 10), doll(8, 6), doll(5, 3)]
        self.assertEqual(self.last(*dolls, put(1, 0), put(2, 1), within(0)), [2, 1, 2])

    def test_outermost_first_where_numbers_neither_rise_nor_fall(self):
        dolls = [doll(8, 6), doll(20, 10), doll(3, 1), doll(5, 3)]
        self.assertEqual(self.last(*dolls, put(2, 3), put(3, 0), put(0, 1), within(1)), [3, 0, 3, 2])

    def test_eight_one_within_another(self):
        puts = [put(number, number + 1) for number in range(7)]
        self.assertEqual(self.last(*EIGHT, *puts, within(7)), [7, 6, 5, 4, 3, 2, 1, 0])

    def test_two_apart_from_one_another(self):
        dolls = [doll(20, 10), doll(20, 10), doll(4, 2), doll(5, 2)]
        told = ask(*dolls, put(2, 1), put(3, 0), within(0), within(1))[6:]
        self.assertEqual(told, [[1, 3], [1, 2]])

    def test_no_such_doll(self):
        for number in (4, 5, GREATEST):
            self.check_refused(DEEP, within(number), -2, 4)
        self.check_refused([], within(0), -2, 0)


class FitsTest(CallCase):
    def test_those_that_go_into_it_rising(self):
        told = ask(*FOUR, fits(0), fits(1), fits(2), fits(3))[4:]
        self.assertEqual(told, [[0], [1, 0], [2, 0, 1], [3, 0, 1, 2]])

    def test_rising_whatever_the_sizes(self):
        dolls = [doll(8, 1), doll(20, 9), doll(3, 1), doll(10, 2), doll(9, 3)]
        self.assertEqual(self.last(*dolls, fits(1)), [3, 0, 2, 4])

    def test_outer_just_as_great_as_the_inner_and_one_greater(self):
        self.assertEqual(self.last(doll(10, 6), doll(5, 1), doll(6, 1), doll(7, 1), fits(0)), [2, 1, 2])

    def test_the_nesting_held_does_not_count(self):
        told = ask(*DEEP, fits(0), fits(1), fits(2), fits(3))[7:]
        self.assertEqual(told, [[0], [1, 0], [2, 0, 1], [3, 0, 1, 2]])

    def test_a_doll_does_not_go_into_itself(self):
        self.assertEqual(self.last(doll(100, 99), fits(0)), [0])

    def test_no_such_doll(self):
        for number in (4, 5, GREATEST):
            self.check_refused(DEEP, fits(number), -2, 4)
        self.check_refused([], fits(0), -2, 0)


if __name__ == "__main__":
    unittest.main()

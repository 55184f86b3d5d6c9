"""What the calls fewest, narrowest, nestings, tower and apart answer."""

import unittest

from helper import (APART, DEEP, EIGHT, FEWEST, FOUR, HOLDS, NARROWEST, NESTINGS, SEARCHES, TOWER, CallCase, ask, doll,
                    lay, out, put, state_calls)

# One goes into the great one, but not both: they are told in rising, falling and mixed order of size.
RISING = [doll(5, 1), doll(6, 1), doll(10, 9)]
FALLING = [doll(10, 9), doll(6, 1), doll(5, 1)]
MIXED = [doll(6, 1), doll(10, 9), doll(5, 1)]


class SearchCase(CallCase):
    def check_all(self, dolls, fewest, narrowest, nestings, tower, apart):
        told = ask(*dolls, *SEARCHES)[len(dolls):]
        self.assertEqual(told, [fewest, narrowest, nestings, tower, apart])


class EdgesTest(SearchCase):
    def test_no_doll_at_all(self):
        self.check_all([], [0, 1], [0, 1], [1], [0], [0])

    def test_refused_dolls_do_not_count(self):
        self.check_all([doll(1, 1), doll(9, 9)], [0, 1], [0, 1], [1], [0], [0])

    def test_one_doll(self):
        self.check_all([doll(7, 3)], [1, 1, 0], [7, 1, 0], [1], [1, 0], [1, 0])
        self.check_all([doll(2, 1)], [1, 1, 0], [2, 1, 0], [1], [1, 0], [1, 0])
        self.check_all([doll(100, 99)], [1, 1, 0], [100, 1, 0], [1], [1, 0], [1, 0])

    def test_dolls_of_one_size(self):
        self.check_all([doll(9, 8)] * 3, [3, 1, 0, 0, 0], [27, 1, 0, 0, 0], [1], [1, 0], [3, 0, 1, 2])
        eight = list(range(8))
        self.check_all([doll(100, 99)] * 8, [8, 1] + [0] * 8, [800, 1] + [0] * 8, [1], [1, 0], [8] + eight)

    def test_eight_of_which_each_goes_into_every_one_behind_it(self):
        chain = [2, 3, 4, 5, 6, 7, 8, 0]
        self.check_all(EIGHT, [1, 1] + chain, [17, 1] + chain, [4140], [8, 7, 6, 5, 4, 3, 2, 1, 0], [1, 0])

    def test_eight_of_which_each_goes_into_every_one_before_it(self):
        chain = [0, 1, 2, 3, 4, 5, 6, 7]
        self.check_all(EIGHT[::-1], [1, 1] + chain, [17, 1] + chain, [4140], [8] + chain, [1, 0])

    def test_eight_of_which_none_goes_into_another(self):
        dolls = [doll(outer, 9) for outer in (14, 10, 17, 11, 15, 12, 16, 13)]
        eight = list(range(8))
        self.check_all(dolls, [8, 1] + [0] * 8, [108, 1] + [0] * 8, [1], [1, 0], [8] + eight)

    def test_thick_walls(self):
        # 0 goes into neither of the greater ones, and 3 into both.
        dolls = [doll(5, 1), doll(100, 4), doll(50, 4), doll(4, 1)]
        self.check_all(dolls, [3, 2, 0, 0, 0, 2], [155, 2, 0, 0, 0, 2], [3], [2, 1, 3], [3, 0, 1, 2])
        self.check_all(dolls[:3], [3, 1, 0, 0, 0], [155, 1, 0, 0, 0], [1], [1, 0], [3, 0, 1, 2])

    def test_outer_just_as_great_as_the_inner_and_one_greater(self):
        self.check_all([doll(6, 1), doll(10, 6)], [1, 1, 2, 0], [10, 1, 2, 0], [2], [2, 1, 0], [1, 0])
        self.check_all([doll(7, 1), doll(10, 6)], [2, 1, 0, 0], [17, 1, 0, 0], [1], [1, 0], [2, 0, 1])
        self.check_all([doll(10, 6), doll(6, 1)], [1, 1, 0, 1], [10, 1, 0, 1], [2], [2, 0, 1], [1, 0])
        self.check_all([doll(10, 6), doll(7, 1)], [2, 1, 0, 0], [17, 1, 0, 0], [1], [1, 0], [2, 0, 1])

    def test_four_one_within_another(self):
        chain = [2, 3, 4, 0]
        self.check_all(FOUR, [1, 1] + chain, [20, 1] + chain, [15], [4, 3, 2, 1, 0], [1, 0])


class HeldTest(CallCase):
    """The searches speak of the dolls there are, whatever is held, and change nothing."""

    def test_the_nesting_held_does_not_count(self):
        told = ask(*FOUR, *SEARCHES)[len(FOUR):]
        self.assertEqual(ask(*DEEP, *SEARCHES)[len(DEEP):], told)
        self.assertEqual(ask(*FOUR, put(0, 3), *SEARCHES)[len(FOUR) + 1:], told)
        self.assertEqual(ask(*FOUR, lay([4, 3, 0, 0]), *SEARCHES)[len(FOUR) + 1:], told)
        self.assertEqual(ask(*DEEP, out(1), *SEARCHES)[len(DEEP) + 1:], told)

    def test_they_change_nothing(self):
        looks = state_calls(4)
        for before in (FOUR, DEEP, FOUR + [lay([4, 3, 0, 0])]):
            untouched = ask(*before, *looks)[len(before):]
            for search in SEARCHES:
                with self.subTest(search=search):
                    self.assertEqual(ask(*before, search, *looks)[len(before) + 1:], untouched)

    def test_a_nesting_that_is_told_is_not_the_one_held(self):
        told = ask(*FOUR, FEWEST, HOLDS, put(0, 3), FEWEST, HOLDS)[len(FOUR):]
        self.assertEqual(told, [[1, 1, 2, 3, 4, 0], [4, 0, 0, 0, 0], [3], [1, 1, 2, 3, 4, 0], [4, 4, 0, 0, 0]])

    def test_they_are_of_the_dolls_that_came_so_far(self):
        told = ask(NESTINGS, doll(5, 1), NESTINGS, TOWER, doll(10, 9), NESTINGS, TOWER, doll(4, 1), NESTINGS, APART)
        self.assertEqual(told, [[1], [0], [1], [1, 0], [1], [2], [2, 1, 0], [2], [3], [2, 0, 2]])

    def test_refused_calls_between_them(self):
        told = ask(*MIXED, FEWEST, put(1, 0), lay([1, 0, 0]), FEWEST)[3:]
        self.assertEqual(told, [[2, 2, 0, 0, 2], [-6], [-1], [2, 2, 0, 0, 2]])


class FewestTest(CallCase):
    def test_the_first_of_several(self):
        self.assertEqual(self.last(*RISING, FEWEST), [2, 2, 0, 3, 0])
        self.assertEqual(self.last(*FALLING, FEWEST), [2, 2, 0, 0, 1])
        self.assertEqual(self.last(*MIXED, FEWEST), [2, 2, 0, 0, 2])

    def test_the_lower_place_where_a_doll_goes_into_several(self):
        # 0 goes into both others, which are apart from one another.
        self.assertEqual(self.last(doll(3, 1), doll(9, 8), doll(9, 5), FEWEST), [2, 2, 2, 0, 0])
        self.assertEqual(self.last(doll(9, 8), doll(3, 1), doll(9, 5), FEWEST), [2, 2, 0, 1, 0])
        self.assertEqual(self.last(doll(9, 8), doll(9, 5), doll(3, 1), FEWEST), [2, 2, 0, 0, 1])

    def test_all_ways_to_pair_are_counted(self):
        # Three small ones in three great ones: 3 * 2 * 1 ways.
        self.assertEqual(self.last(*[doll(3, 1)] * 3, *[doll(9, 4)] * 3, FEWEST), [3, 6, 4, 5, 6, 0, 0, 0])
        self.assertEqual(self.last(*[doll(9, 4)] * 3, *[doll(3, 1)] * 3, FEWEST), [3, 6, 0, 0, 0, 1, 2, 3])

    def test_a_low_place_early_may_cost_a_doll_later(self):
        # 0 goes into 2 and 3, but 1 into 2 alone: only with 0 in 3 are two on the shelf.
        self.assertEqual(self.last(doll(3, 1), doll(5, 1), doll(9, 5), doll(9, 4), FEWEST), [2, 1, 4, 3, 0, 0])

    def test_not_the_narrowest(self):
        # The first of the fewest puts the smaller one away, the narrowest the greater.
        self.assertEqual(ask(*MIXED, FEWEST, NARROWEST)[3:], [[2, 2, 0, 0, 2], [15, 1, 2, 0, 0]])


class NarrowestTest(CallCase):
    def test_the_greater_one_is_put_away(self):
        self.assertEqual(self.last(*RISING, NARROWEST), [15, 1, 0, 3, 0])
        self.assertEqual(self.last(*FALLING, NARROWEST), [15, 1, 0, 1, 0])
        self.assertEqual(self.last(*MIXED, NARROWEST), [15, 1, 2, 0, 0])

    def test_the_first_of_several(self):
        self.assertEqual(self.last(doll(5, 1), doll(5, 2), doll(10, 9), NARROWEST), [15, 2, 0, 3, 0])
        self.assertEqual(self.last(doll(10, 9), doll(5, 1), doll(5, 2), NARROWEST), [15, 2, 0, 0, 1])
        self.assertEqual(self.last(doll(5, 1), doll(10, 9), doll(5, 2), NARROWEST), [15, 2, 0, 0, 2])

    def test_the_lower_place_where_a_doll_goes_into_several(self):
        self.assertEqual(self.last(doll(3, 1), doll(9, 8), doll(8, 5), NARROWEST), [9, 1, 3, 0, 2])
        self.assertEqual(self.last(doll(3, 1), doll(9, 7), doll(8, 5), NARROWEST), [17, 2, 2, 0, 0])

    def test_inner_sizes_do_not_count(self):
        self.assertEqual(self.last(doll(20, 1), doll(20, 19), NARROWEST), [40, 1, 0, 0])


class NestingsTest(CallCase):
    def test_none_in_another_counts_too(self):
        self.assertEqual(self.last(doll(5, 1), doll(9, 5), NESTINGS), [2])
        self.assertEqual(self.last(doll(6, 1), doll(9, 5), NESTINGS), [1])

    def test_no_two_are_in_the_same_one(self):
        self.assertEqual(self.last(*RISING, NESTINGS), [3])
        self.assertEqual(self.last(*FALLING, NESTINGS), [3])
        self.assertEqual(self.last(*MIXED, NESTINGS), [3])

    def test_one_within_another_within_another(self):
        counts = [self.last(*EIGHT[:number], NESTINGS) for number in range(9)]
        self.assertEqual(counts, [[1], [1], [2], [5], [15], [52], [203], [877], [4140]])

    def test_four_small_and_four_great(self):
        # Choose how many are put away: 1 + 16 + 72 + 96 + 24.
        self.assertEqual(self.last(*[doll(3, 1), doll(9, 4)] * 4, NESTINGS), [209])


class TowerTest(CallCase):
    def test_outermost_first(self):
        self.assertEqual(self.last(doll(8, 6), doll(20, 10), doll(3, 1), doll(5, 3), TOWER), [4, 1, 0, 3, 2])

    def test_the_first_of_several(self):
        self.assertEqual(self.last(*RISING, TOWER), [2, 2, 0])
        self.assertEqual(self.last(*FALLING, TOWER), [2, 0, 1])
        self.assertEqual(self.last(*MIXED, TOWER), [2, 1, 0])

    def test_the_outermost_doll_counts_first(self):
        # (1, 2) comes ahead of (3, 0) and (3, 2).
        self.assertEqual(self.last(doll(8, 1), doll(10, 5), doll(5, 1), doll(9, 8), TOWER), [2, 1, 2])
        # (0, 3) comes ahead of (1, 2) and (1, 3), and (2, 0) is none.
        self.assertEqual(self.last(doll(10, 5), doll(9, 8), doll(8, 1), doll(5, 1), TOWER), [2, 0, 3])

    def test_where_they_differ_in_the_middle(self):
        # 0 and 3 both go into 1, and 2 goes into both.
        self.assertEqual(self.last(doll(9, 4), doll(20, 10), doll(3, 1), doll(8, 3), TOWER), [3, 1, 0, 2])

    def test_higher_goes_ahead_of_lower_numbers(self):
        # (0, 1) begins lower, but (2, 3, 1) is higher.
        self.assertEqual(self.last(doll(50, 3), doll(3, 1), doll(20, 10), doll(9, 4), TOWER), [3, 2, 3, 1])

    def test_each_goes_into_the_very_one_before_it(self):
        # Both go into the great one, but neither into the other.
        self.assertEqual(self.last(doll(20, 19), doll(9, 4), doll(8, 4), TOWER), [2, 0, 1])


class ApartTest(CallCase):
    def test_written_rising(self):
        self.assertEqual(self.last(*RISING, APART), [2, 0, 1])
        self.assertEqual(self.last(*FALLING, APART), [2, 1, 2])
        self.assertEqual(self.last(*MIXED, APART), [2, 0, 2])

    def test_the_first_of_several(self):
        # 2 goes into 0 and 1, so {0, 1} comes ahead of all others; 3 is apart from 2 alone.
        self.assertEqual(self.last(doll(20, 10), doll(20, 9), doll(8, 1), doll(8, 2), APART), [2, 0, 1])
        self.assertEqual(self.last(doll(8, 1), doll(20, 10), doll(20, 9), doll(8, 2), APART), [2, 0, 3])
        self.assertEqual(self.last(doll(20, 10), doll(8, 1), doll(8, 2), doll(20, 9), APART), [2, 0, 3])

    def test_more_goes_ahead_of_lower_numbers(self):
        # All others go into 0.
        self.assertEqual(self.last(doll(90, 80), doll(9, 4), doll(9, 5), doll(8, 7), APART), [3, 1, 2, 3])

    def test_neither_goes_into_the_other(self):
        self.assertEqual(self.last(doll(5, 1), doll(9, 5), APART), [1, 0])
        self.assertEqual(self.last(doll(9, 5), doll(5, 1), APART), [1, 0])
        self.assertEqual(self.last(doll(6, 1), doll(9, 5), APART), [2, 0, 1])

    def test_each_is_apart_from_each(self):
        # 1 is apart from 0 and from 2, but 0 goes into 2.
        self.assertEqual(self.last(doll(5, 1), doll(20, 2), doll(9, 6), APART), [2, 0, 1])


if __name__ == "__main__":
    unittest.main()

"""The searches, held against a plain walk over all nestings, all rows of dolls and all sets of dolls."""

import itertools
import unittest

from helper import (APART, FEWEST, SEARCHES, Draw, ask, doll, drawn_sizes, nestings_from_places, plain_answers,
                    plain_nestings)


def told_by_the_program(sizes, calls):
    return ask(*[doll(*size) for size in sizes], *calls)[len(sizes):]


class PlainSearchTest(unittest.TestCase):
    def check(self, sizes, nestings):
        self.assertEqual(told_by_the_program(sizes, SEARCHES), plain_answers(sizes, nestings), sizes)

    def test_all_small_sizes(self):
        kinds = [(outer, inner) for outer in range(2, 5) for inner in range(1, outer)]
        for count in range(4):
            for sizes in itertools.product(kinds, repeat=count):
                self.check(sizes, plain_nestings(sizes))

    def test_drawn_collections_of_up_to_five(self):
        for seed in range(300):
            draw = Draw(seed)
            sizes = drawn_sizes(draw, draw.below(5))
            self.check(sizes, plain_nestings(sizes))
        for seed in range(40):
            sizes = drawn_sizes(Draw(1000 + seed), 5)
            self.check(sizes, plain_nestings(sizes))

    def test_drawn_collections_of_up_to_eight(self):
        for seed in range(60):
            draw = Draw(2000 + seed)
            sizes = drawn_sizes(draw, 6 + draw.below(2))
            self.check(sizes, nestings_from_places(sizes))
        for seed in range(3):
            sizes = drawn_sizes(Draw(3000 + seed), 8)
            self.check(sizes, nestings_from_places(sizes))

    def test_every_order_of_the_same_dolls(self):
        for sizes in itertools.permutations([(3, 1), (4, 3), (6, 4), (9, 4), (9, 8)]):
            self.check(sizes, nestings_from_places(sizes))


class FewestAndApartTest(unittest.TestCase):
    def test_the_fewest_on_the_shelf_are_as_many_as_the_most_apart(self):
        seen = set()
        for seed in range(600):
            draw = Draw(4000 + seed)
            sizes = drawn_sizes(draw, draw.below(9))
            fewest, apart = told_by_the_program(sizes, [FEWEST, APART])
            self.assertEqual(fewest[0], apart[0], sizes)
            seen.add(fewest[0])
        # The collections are worth asking only if they are not all alike.
        self.assertGreaterEqual(seen, set(range(8)))


if __name__ == "__main__":
    unittest.main()

"""One collection of dolls and the nesting that it holds."""

from dollshelf.nestings import ON_SHELF, all_nestings, is_nesting, least_of, place_in, standing_in
from dollshelf.rows import first_longest_row

SMALLEST_OUTER = 2
GREATEST_OUTER = 100
SMALLEST_INNER = 1
MOST_DOLLS = 8

# The document gives -1 to several faults, so its name says no more than they share.
WRONG_NUMBERS = -1
NO_SUCH_DOLL = -2
OTHER_IS_TAKEN = -3
IS_IN_ONE_ALREADY = -4
TOO_MANY_DOLLS = -5
DOES_NOT_GO_IN = -6
IS_ON_SHELF = -9


def sizes_are_right(outer, inner):
    return SMALLEST_OUTER <= outer <= GREATEST_OUTER and SMALLEST_INNER <= inner < outer


def counted(numbers):
    return [len(numbers)] + numbers


class Collection:
    """Each call answers the list of its numbers; a refusal is one number below 0, alone."""

    def __init__(self):
        self.outers = []
        self.inners = []
        self.nesting = []

    def has_doll(self, doll):
        return doll < len(self.outers)

    def goes_into(self, doll, other):
        return self.outers[doll] <= self.inners[other]

    def are_apart(self, doll, other):
        return not self.goes_into(doll, other) and not self.goes_into(other, doll)

    def is_on_shelf(self, doll):
        return self.nesting[doll] == ON_SHELF

    def is_taken(self, doll):
        return place_in(doll) in self.nesting

    def shelf_count(self):
        return len(standing_in(self.nesting))

    def width_of(self, nesting):
        return sum([self.outers[doll] for doll in standing_in(nesting)])

    def places_of(self, doll):
        around = [other for other in range(len(self.outers)) if self.goes_into(doll, other)]
        return [ON_SHELF] + [place_in(other) for other in around]

    def places(self):
        """For each doll the numbers that a nesting may have for it, rising."""
        return [self.places_of(doll) for doll in range(len(self.outers))]

    def add_doll(self, outer, inner):
        if not sizes_are_right(outer, inner):
            return [WRONG_NUMBERS]
        number = len(self.outers)
        if number == MOST_DOLLS:
            return [TOO_MANY_DOLLS]
        self.outers.append(outer)
        self.inners.append(inner)
        self.nesting.append(ON_SHELF)
        return [number]

    def put(self, doll, other):
        # Several of these may hold at once: their order is the one in which the document tells them.
        if not self.has_doll(doll) or not self.has_doll(other):
            return [NO_SUCH_DOLL]
        if doll == other:
            return [WRONG_NUMBERS]
        if not self.is_on_shelf(doll):
            return [IS_IN_ONE_ALREADY]
        if self.is_taken(other):
            return [OTHER_IS_TAKEN]
        if not self.goes_into(doll, other):
            return [DOES_NOT_GO_IN]
        self.nesting[doll] = place_in(other)
        return [self.shelf_count()]

    def out(self, doll):
        if not self.has_doll(doll):
            return [NO_SUCH_DOLL]
        if self.is_on_shelf(doll):
            return [IS_ON_SHELF]
        self.nesting[doll] = ON_SHELF
        return [self.shelf_count()]

    def holds(self):
        return counted(self.nesting)

    def shelf(self):
        return counted(standing_in(self.nesting)) + [self.width_of(self.nesting)]

    def within(self, doll):
        if not self.has_doll(doll):
            return [NO_SUCH_DOLL]
        inside = []
        around = doll
        while self.is_taken(around):
            around = self.nesting.index(place_in(around))
            inside.append(around)
        return counted(inside)

    def fits(self, doll):
        if not self.has_doll(doll):
            return [NO_SUCH_DOLL]
        return counted([small for small in range(len(self.outers)) if self.goes_into(small, doll)])

    def fewest(self):
        possible = all_nestings(self.places())
        return least_of(possible, [len(standing_in(nesting)) for nesting in possible])

    def narrowest(self):
        possible = all_nestings(self.places())
        return least_of(possible, [self.width_of(nesting) for nesting in possible])

    def nestings(self):
        return [len(all_nestings(self.places()))]

    def tower(self):
        def may_follow(row, doll):
            return len(row) == 0 or self.goes_into(doll, row[-1])

        return counted(first_longest_row(len(self.outers), may_follow))

    def apart(self):
        def may_follow(row, doll):
            # A set is written rising, so a doll stands behind lower ones alone.
            return all([other < doll and self.are_apart(doll, other) for other in row])

        return counted(first_longest_row(len(self.outers), may_follow))

    def lay(self, numbers):
        if not is_nesting(numbers, self.places()):
            return [WRONG_NUMBERS]
        self.nesting = list(numbers)
        return [self.shelf_count()]

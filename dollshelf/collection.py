"""One collection of dolls and the nesting that it holds."""

SMALLEST_OUTER = 2
GREATEST_OUTER = 100
SMALLEST_INNER = 1
MOST_DOLLS = 8

ON_SHELF = 0

# The document gives -1 to several faults, so its name says no more than they share.
WRONG_NUMBERS = -1
NO_SUCH_DOLL = -2
OTHER_IS_TAKEN = -3
IS_IN_ONE_ALREADY = -4
TOO_MANY_DOLLS = -5
DOES_NOT_GO_IN = -6
IS_ON_SHELF = -9


def place_in(doll):
    """The number by which a nesting tells that a doll is in this one."""
    return doll + 1


def sizes_are_right(outer, inner):
    return SMALLEST_OUTER <= outer <= GREATEST_OUTER and SMALLEST_INNER <= inner < outer


class Collection:
    """Each call answers the list of its numbers; a refusal is one number below 0, alone."""

    def __init__(self):
        self.outers = []
        self.inners = []
        self.nesting = []

    def has_doll(self, doll):
        return doll < len(self.outers)

    def goes_into(self, doll, other):
        return self.outers[doll] <= self.inners[other]

    def is_on_shelf(self, doll):
        return self.nesting[doll] == ON_SHELF

    def is_taken(self, doll):
        return place_in(doll) in self.nesting

    def shelf_count(self):
        return self.nesting.count(ON_SHELF)

    def add_doll(self, outer, inner):
        if not sizes_are_right(outer, inner):
            return [WRONG_NUMBERS]
        number = len(self.outers)
        if number == MOST_DOLLS:
            return [TOO_MANY_DOLLS]
        self.outers.append(outer)
        self.inners.append(inner)
        self.nesting.append(ON_SHELF)
        return [number]

    def put(self, doll, other):
        # Several of these may hold at once: their order is the one in which the document tells them.
        if not self.has_doll(doll) or not self.has_doll(other):
            return [NO_SUCH_DOLL]
        if doll == other:
            return [WRONG_NUMBERS]
        if not self.is_on_shelf(doll):
            return [IS_IN_ONE_ALREADY]
        if self.is_taken(other):
            return [OTHER_IS_TAKEN]
        if not self.goes_into(doll, other):
            return [DOES_NOT_GO_IN]
        self.nesting[doll] = place_in(other)
        return [self.shelf_count()]

    def out(self, doll):
        if not self.has_doll(doll):
            return [NO_SUCH_DOLL]
        if self.is_on_shelf(doll):
            return [IS_ON_SHELF]
        self.nesting[doll] = ON_SHELF
        return [self.shelf_count()]

    def holds(self):
        return [len(self.nesting)] + self.nesting

    def shelf(self):
        standing = [doll for doll in range(len(self.nesting)) if self.is_on_shelf(doll)]
        width = sum([self.outers[doll] for doll in standing])
        return [len(standing)] + standing + [width]

    def within(self, doll):
        if not self.has_doll(doll):
            return [NO_SUCH_DOLL]
        inside = []
        around = doll
        while self.is_taken(around):
            around = self.nesting.index(place_in(around))
            inside.append(around)
        return [len(inside)] + inside

    def fits(self, doll):
        if not self.has_doll(doll):
            return [NO_SUCH_DOLL]
        fitting = [small for small in range(len(self.outers)) if self.goes_into(small, doll)]
        return [len(fitting)] + fitting

"""What several tests use: how calls are written and asked, drawn dolls, and plain searches."""

import itertools
import unittest

from dollshelf.dolls import answers

GREATEST = 4294967295


def doll(outer, inner):
    return [0, outer, inner]


def put(first, other):
    return [1, first, other]


def out(first):
    return [2, first]


HOLDS = [3]
SHELF = [4]
FEWEST = [7]
NARROWEST = [8]
NESTINGS = [9]
TOWER = [10]
APART = [11]
SEARCHES = [FEWEST, NARROWEST, NESTINGS, TOWER, APART]


def within(first):
    return [5, first]


def fits(first):
    return [6, first]


def lay(nesting):
    return [12, len(nesting)] + nesting


def flat(calls):
    return [number for call in calls for number in call]


def ask(*calls):
    """The answers to these calls, a list for each."""
    if len(calls) > 40:
        raise AssertionError("a line has at most 40 calls")
    told = answers(flat(calls))
    split = []
    at = 0
    while at < len(told):
        split.append(told[at + 1:at + 1 + told[at]])
        if len(split[-1]) != told[at]:
            raise AssertionError(f"a count runs past the end: {told}")
        at += 1 + told[at]
    if len(split) != len(calls):
        raise AssertionError(f"{len(calls)} calls, {len(split)} answers: {told}")
    return split


def state_calls(dolls):
    """Calls that together show all that a collection keeps."""
    return [HOLDS, SHELF] + [call for number in range(dolls) for call in (within(number), fits(number))]


class CallCase(unittest.TestCase):
    def last(self, *calls):
        return ask(*calls)[-1]

    def check_refused(self, before, call, refusal, dolls):
        """The call is refused, and what the collection keeps is the same before and behind it."""
        # Asked alone first: a put wrongly taken may leave two dolls in one another, and looking would never end.
        self.assertEqual(self.last(*before, call), [refusal])
        looks = state_calls(dolls)
        untouched = ask(*before, *looks)[len(before):]
        told = ask(*before, call, *looks, call)[len(before):]
        self.assertEqual(told, [[refusal]] + untouched + [[refusal]])


class Unchanging(list):
    """A list that tells when it is changed, be it for a while alone."""

    def refuse(self, *args, **kwargs):
        raise AssertionError("what is handed in was changed")

    append = extend = insert = pop = remove = clear = reverse = sort = refuse
    __setitem__ = __delitem__ = __iadd__ = __imul__ = refuse


# Each goes into the next: 0 into 1 into 2 into 3.
FOUR = [doll(3, 1), doll(5, 3), doll(8, 6), doll(20, 10)]
# 0 in 1, in 2, in 3, put from the inside out.
DEEP = FOUR + [put(0, 1), put(1, 2), put(2, 3)]
EIGHT = [doll(outer, outer - 1) for outer in range(10, 18)]


class Draw:
    """Numbers that look drawn but are the same each time."""

    def __init__(self, seed):
        self.state = seed

    def below(self, bound):
        self.state = (self.state * 6364136223846793005 + 1442695040888963407) % 2 ** 64
        return (self.state >> 33) % bound


def drawn_sizes(draw, count):
    """Outer and inner sizes of dolls, with thin walls, walls of any kind, or sizes that are often the same."""
    greatest, thin = ((100, True), (100, False), (30, True), (12, False), (9, True), (5, False))[draw.below(6)]
    sizes = []
    for _ in range(count):
        outer = 2 + draw.below(greatest - 1)
        inner = max(1, outer - 1 - draw.below(3)) if thin else 1 + draw.below(outer - 1)
        sizes.append((outer, inner))
    return sizes


# What the searches must answer, by a walk over all rows of numbers, all rows of dolls and all sets of dolls.


def goes_into(sizes, small, great):
    return sizes[small][0] <= sizes[great][1]


def is_nesting(sizes, row):
    inside = [(small, place - 1) for small, place in enumerate(row) if place > 0]
    around = [great for _, great in inside]
    return len(around) == len(set(around)) and all(goes_into(sizes, small, great) for small, great in inside)


def plain_nestings(sizes):
    """Any number for any doll, and then only those that are nestings."""
    every = itertools.product(range(len(sizes) + 1), repeat=len(sizes))
    return [row for row in every if is_nesting(sizes, row)]


def nestings_from_places(sizes):
    """For eight dolls: only the places that a doll can have, and then only those rows that are nestings."""
    dolls = range(len(sizes))
    places = [[0] + [great + 1 for great in dolls if goes_into(sizes, small, great)] for small in dolls]
    return [row for row in itertools.product(*places) if is_nesting(sizes, row)]


def best(nestings, measure):
    least = min(map(measure, nestings))
    first = min(row for row in nestings if measure(row) == least)
    return [least, sum(measure(row) == least for row in nestings), *first]


def width(sizes, row):
    return sum(size[0] for size, place in zip(sizes, row) if place == 0)


def is_tower(sizes, row):
    return all(goes_into(sizes, inside, around) for around, inside in zip(row, row[1:]))


def is_apart(sizes, dolls):
    return not any(goes_into(sizes, one, other) for one, other in itertools.permutations(dolls, 2))


def highest(rows):
    most = max(map(len, rows))
    return [most, *min(row for row in rows if len(row) == most)]


def plain_answers(sizes, nestings):
    dolls = range(len(sizes))
    lengths = range(len(sizes) + 1)
    rows = [row for length in lengths for row in itertools.permutations(dolls, length)]
    sets = [chosen for length in lengths for chosen in itertools.combinations(dolls, length)]
    return [
        best(nestings, lambda row: row.count(0)),
        best(nestings, lambda row: width(sizes, row)),
        [len(nestings)],
        highest([row for row in rows if is_tower(sizes, row)]),
        highest([chosen for chosen in sets if is_apart(sizes, chosen)]),
    ]

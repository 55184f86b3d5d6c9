"""Many lines of calls, compared with a second way of keeping dolls: each doll knows what is in it."""

import unittest

from dollshelf.dolls import answers
from helper import Draw, is_nesting, plain_answers, plain_nestings


class Model:
    def __init__(self):
        self.sizes = []
        self.content = {}

    def around(self, doll):
        return [other for other, inside in self.content.items() if inside == doll]

    def standing(self):
        return [doll for doll in range(len(self.sizes)) if not self.around(doll)]

    def chain(self, doll):
        inside = self.content.get(doll)
        return [] if inside is None else [inside] + self.chain(inside)

    def doll(self, outer, inner):
        if outer not in range(2, 101) or inner not in range(1, outer):
            return [-1]
        if len(self.sizes) >= 8:
            return [-5]
        self.sizes.append((outer, inner))
        return [len(self.sizes) - 1]

    def put(self, doll, other):
        known = range(len(self.sizes))
        faults = [(-2, lambda: doll not in known or other not in known), (-1, lambda: doll == other),
                  (-4, lambda: bool(self.around(doll))), (-3, lambda: other in self.content),
                  (-6, lambda: self.sizes[doll][0] > self.sizes[other][1])]
        for refusal, holds in faults:
            if holds():
                return [refusal]
        self.content[other] = doll
        return [len(self.standing())]

    def out(self, doll):
        if doll not in range(len(self.sizes)):
            return [-2]
        if not self.around(doll):
            return [-9]
        del self.content[self.around(doll)[0]]
        return [len(self.standing())]

    def holds(self):
        return [len(self.sizes)] + [sum(other + 1 for other in self.around(doll)) for doll in range(len(self.sizes))]

    def shelf(self):
        standing = self.standing()
        return [len(standing), *standing, sum(self.sizes[doll][0] for doll in standing)]

    def within(self, doll):
        if doll not in range(len(self.sizes)):
            return [-2]
        return [len(self.chain(doll)), *self.chain(doll)]

    def fits(self, doll):
        if doll not in range(len(self.sizes)):
            return [-2]
        fitting = [small for small, sizes in enumerate(self.sizes) if sizes[0] <= self.sizes[doll][1]]
        return [len(fitting), *fitting]

    def lay(self, count, *nesting):
        if count != len(self.sizes) or not self.is_nesting(nesting):
            return [-1]
        self.content = {place - 1: doll for doll, place in enumerate(nesting) if place > 0}
        return [len(self.standing())]

    def is_nesting(self, nesting):
        return max(nesting, default=0) <= len(self.sizes) and is_nesting(self.sizes, nesting)

    def search(self, position):
        return plain_answers(self.sizes, plain_nestings(self.sizes))[position]


CALLS = ("doll", "put", "out", "holds", "shelf", "within", "fits")
ARGUMENTS = (2, 2, 1, 0, 0, 1, 1)
FIRST_SEARCH = 7
LAY = 12


def asked_of(model, call, numbers):
    if call == LAY:
        return model.lay(*numbers)
    if call >= FIRST_SEARCH:
        return model.search(call - FIRST_SEARCH)
    return getattr(model, CALLS[call])(*numbers)


def drawn_sizes_of_one(draw, greatest_outer):
    outer = draw.below(greatest_outer)
    return [outer, draw.below(outer + 2)]


def drawn_nesting(draw, dolls):
    """Mostly of the right length and mostly zeros, so that many of them are nestings."""
    length = dolls if draw.below(8) else draw.below(21)
    nesting = [draw.below(dolls + 2) if draw.below(3) == 0 else 0 for _ in range(length)]
    return [length] + nesting


def drawn_line(seed):
    """Calls, and what the model answers to them; searches are asked of few dolls, for the model's are slow."""
    draw = Draw(seed)
    greatest_outer = (6, 12, 30, 103)[draw.below(4)]
    with_searches = draw.below(8) == 0
    choices = (1, 1, 2, 3, 4, 6, 7, 8, 9, 10, 11, 12) if with_searches else (0, 1, 1, 1, 1, 2, 2, 3, 4, 5, 6, 12, 12)
    model = Model()
    line = []
    searches = 0
    for position in range(1 + draw.below(40)):
        coming = position < (4 if with_searches else 8) and draw.below(4)
        call = 0 if coming else choices[draw.below(len(choices))]
        searches += call in (7, 8, 9)
        if searches > 8:
            break
        if call == 0:
            numbers = drawn_sizes_of_one(draw, greatest_outer)
        elif call == LAY:
            numbers = drawn_nesting(draw, len(model.sizes))
        else:
            numbers = [draw.below(9) for _ in range(ARGUMENTS[call])] if call < FIRST_SEARCH else []
        line.append((call, numbers, asked_of(model, call, numbers)))
    return line


class AgainstModelTest(unittest.TestCase):
    def test_many_lines(self):
        seen = set()
        for seed in range(3000):
            line = drawn_line(seed)
            handed = [number for call, numbers, _ in line for number in [call] + numbers]
            expected = [number for _, _, answer in line for number in [len(answer)] + answer]
            self.assertEqual(answers(handed), expected, handed)
            seen.update((call, min(answer[0], 0)) for call, _, answer in line)
        # The lines are worth comparing only if they reach every call and every refusal.
        refusals = {0: (-1, -5), 1: (-2, -1, -4, -3, -6), 2: (-2, -9), 5: (-2,), 6: (-2,), LAY: (-1,)}
        reached = {(call, refusal) for call, told in refusals.items() for refusal in told}
        self.assertEqual(seen, reached | {(call, 0) for call in range(13)})


if __name__ == "__main__":
    unittest.main()

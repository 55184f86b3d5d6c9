"""Many lines of calls, compared with a second way of keeping dolls: each doll knows what is in it."""

import unittest

from dollshelf.dolls import answers


class Model:
    def __init__(self):
        self.sizes = []
        self.content = {}

    def around(self, doll):
        return [other for other, inside in self.content.items() if inside == doll]

    def standing(self):
        return [doll for doll in range(len(self.sizes)) if not self.around(doll)]

    def chain(self, doll):
        inside = self.content.get(doll)
        return [] if inside is None else [inside] + self.chain(inside)

    def doll(self, outer, inner):
        if outer not in range(2, 101) or inner not in range(1, outer):
            return [-1]
        if len(self.sizes) >= 8:
            return [-5]
        self.sizes.append((outer, inner))
        return [len(self.sizes) - 1]

    def put(self, doll, other):
        known = range(len(self.sizes))
        faults = [(-2, lambda: doll not in known or other not in known), (-1, lambda: doll == other),
                  (-4, lambda: bool(self.around(doll))), (-3, lambda: other in self.content),
                  (-6, lambda: self.sizes[doll][0] > self.sizes[other][1])]
        for refusal, holds in faults:
            if holds():
                return [refusal]
        self.content[other] = doll
        return [len(self.standing())]

    def out(self, doll):
        if doll not in range(len(self.sizes)):
            return [-2]
        if not self.around(doll):
            return [-9]
        del self.content[self.around(doll)[0]]
        return [len(self.standing())]

    def holds(self):
        return [len(self.sizes)] + [sum(other + 1 for other in self.around(doll)) for doll in range(len(self.sizes))]

    def shelf(self):
        standing = self.standing()
        return [len(standing), *standing, sum(self.sizes[doll][0] for doll in standing)]

    def within(self, doll):
        if doll not in range(len(self.sizes)):
            return [-2]
        return [len(self.chain(doll)), *self.chain(doll)]

    def fits(self, doll):
        if doll not in range(len(self.sizes)):
            return [-2]
        fitting = [small for small, sizes in enumerate(self.sizes) if sizes[0] <= self.sizes[doll][1]]
        return [len(fitting), *fitting]


CALLS = ("doll", "put", "out", "holds", "shelf", "within", "fits")
ARGUMENTS = (2, 2, 1, 0, 0, 1, 1)


class Draw:
    """Numbers that look drawn but are the same each time."""

    def __init__(self, seed):
        self.state = seed

    def below(self, bound):
        self.state = (self.state * 6364136223846793005 + 1442695040888963407) % 2 ** 64
        return (self.state >> 33) % bound


def drawn_calls(seed):
    draw = Draw(seed)
    greatest_outer = (6, 12, 30, 103)[draw.below(4)]
    calls = []
    for position in range(1 + draw.below(40)):
        call = 0 if position < 8 and draw.below(4) else (0, 1, 1, 1, 1, 2, 2, 3, 4, 5, 6)[draw.below(11)]
        if call == 0:
            outer = draw.below(greatest_outer)
            numbers = [outer, draw.below(outer + 2)]
        else:
            numbers = [draw.below(9) for _ in range(ARGUMENTS[call])]
        calls.append((call, numbers))
    return calls


class AgainstModelTest(unittest.TestCase):
    def test_many_lines(self):
        refusals = set()
        for seed in range(3000):
            calls = drawn_calls(seed)
            model = Model()
            expected = []
            handed = []
            for call, numbers in calls:
                answer = getattr(model, CALLS[call])(*numbers)
                expected += [len(answer)] + answer
                handed += [call] + numbers
                if answer[0] < 0:
                    refusals.add((CALLS[call], answer[0]))
            self.assertEqual(answers(handed), expected, handed)
        # The lines are worth comparing only if they reach every refusal.
        self.assertEqual(refusals, {
            ("doll", -1), ("doll", -5), ("put", -2), ("put", -1), ("put", -4), ("put", -3), ("put", -6),
            ("out", -2), ("out", -9), ("within", -2), ("fits", -2)})


if __name__ == "__main__":
    unittest.main()

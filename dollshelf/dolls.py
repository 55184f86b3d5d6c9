"""The calls on one collection of dolls, told and answered as whole numbers."""

from dollshelf.collection import Collection

DOLL = 0
PUT = 1
OUT = 2
HOLDS = 3
SHELF = 4
WITHIN = 5
FITS = 6
FEWEST = 7
NARROWEST = 8
NESTINGS = 9
TOWER = 10
APART = 11
LAY = 12


class UnknownCall(ValueError):
    """There is no call with this number."""


def numbers_behind(calls, start):
    """How many numbers stand behind the number of the call at start."""
    call = calls[start]
    if call == DOLL or call == PUT:
        return 2
    if call == OUT or call == WITHIN or call == FITS:
        return 1
    if HOLDS <= call <= SHELF or FEWEST <= call <= APART:
        return 0
    if call == LAY:
        return 1 + calls[start + 1]
    raise UnknownCall(f"there is no call {call}")


def answer(collection, call, numbers):
    if call == DOLL:
        return collection.add_doll(numbers[0], numbers[1])
    if call == PUT:
        return collection.put(numbers[0], numbers[1])
    if call == OUT:
        return collection.out(numbers[0])
    if call == HOLDS:
        return collection.holds()
    if call == SHELF:
        return collection.shelf()
    if call == WITHIN:
        return collection.within(numbers[0])
    if call == FITS:
        return collection.fits(numbers[0])
    if call == FEWEST:
        return collection.fewest()
    if call == NARROWEST:
        return collection.narrowest()
    if call == NESTINGS:
        return collection.nestings()
    if call == TOWER:
        return collection.tower()
    if call == APART:
        return collection.apart()
    # The first number tells how many the nesting has.
    return collection.lay(numbers[1:])


def answers(calls):
    """For each call, in order: how many numbers are answered, then these numbers."""
    collection = Collection()
    told = []
    start = 0
    while start < len(calls):
        end = start + 1 + numbers_behind(calls, start)
        answered = answer(collection, calls[start], calls[start + 1:end])
        told.append(len(answered))
        told.extend(answered)
        start = end
    return told

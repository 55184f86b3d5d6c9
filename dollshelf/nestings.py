"""How a nesting is told, and all the nestings that some dolls allow.

What a set of dolls allows is handed in as places: for each doll the numbers that a nesting may have for it, rising.
"""

ON_SHELF = 0


def place_in(doll):
    """The number by which a nesting tells that a doll is in this one."""
    return doll + 1


def standing_in(nesting):
    """The dolls that are on the shelf, rising."""
    return [doll for doll, place in enumerate(nesting) if place == ON_SHELF]


def is_free(place, nesting):
    """Whether one more doll may have this place: on the shelf is room for all, in a doll for one."""
    return place == ON_SHELF or place not in nesting


def longer_nestings(nestings, places):
    longer = []
    for nesting in nestings:
        for place in places:
            if is_free(place, nesting):
                longer.append(nesting + [place])
    return longer


def all_nestings(places):
    """Each one, the first ahead: rising places keep the document's order from doll to doll."""
    nestings = [[]]
    for places_of_doll in places:
        nestings = longer_nestings(nestings, places_of_doll)
    return nestings


def is_nesting(numbers, places):
    if len(numbers) != len(places):
        return False
    for doll, place in enumerate(numbers):
        if place not in places[doll] or not is_free(place, numbers[:doll]):
            return False
    return True


def least_of(nestings, measures):
    """The least measure, how many nestings have it, then the first of these; a measure stands for each nesting."""
    least = min(measures)
    return [least, measures.count(least)] + nestings[measures.index(least)]

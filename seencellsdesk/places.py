"""Places: each a tuple of its base and its number."""

COUNT_OF_WORDS = 4294967296


def alike(place, other):
    return place == other


def never_same(place, other):
    return place[0] == other[0] and place[1] != other[1]


def cell_at(place, words):
    """The cell that the place is with these words handed over."""
    base = place[0]
    if base == 0:
        return place[1]
    return (words[base - 1] + place[1]) % COUNT_OF_WORDS

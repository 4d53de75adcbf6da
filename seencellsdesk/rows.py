"""Code: the words that it is handed, and its rows, each kept as the tuple of numbers that tells it."""

NUMBER = 0
READ = 1
WRITE = 2
SAY = 3

# Rows of cells below this one are looked at when all is done.
FIRST_NOT_LOOKED_AT = 2


class Code:
    """What the calls of one line are about."""

    def __init__(self):
        self.handed = 0
        self.rows = []


def gives_name(row):
    return row[0] == NUMBER or row[0] == READ


def count_names(code):
    """How many names there are by now, which is also the name that the next row gives."""
    count = code.handed
    for row in code.rows:
        if gives_name(row):
            count += 1
    return count


def name_used(row):
    """The name that is written or said; None where no name is."""
    if row[0] == WRITE:
        return row[4]
    if row[0] == SAY:
        return row[1]
    return None


def cells_of(row):
    """The row of cells that a read or write is of; None for a number or say."""
    if row[0] == READ:
        return row[2]
    if row[0] == WRITE:
        return row[1]
    return None


def place_of(row):
    """Base and number of the place of a read or write."""
    if row[0] == READ:
        return row[3:5]
    return row[2:4]


def name_at_place(row):
    """The name whose word is in the place right behind a read or write of it."""
    if row[0] == READ:
        return row[1]
    return row[4]


def is_looked_at(row):
    """Of a write: whether its row of cells is looked at when all is done."""
    return cells_of(row) < FIRST_NOT_LOOKED_AT


def in_numbers(handed, rows):
    numbers = [handed, len(rows)]
    for row in rows:
        numbers.extend(row)
    return numbers

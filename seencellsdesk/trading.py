"""Whether two rows, one right behind the other, may change places."""

from seencellsdesk.places import never_same
from seencellsdesk.rows import SAY, WRITE, cells_of, gives_name, name_used, place_of


def needs_name(row, behind):
    return gives_name(row) and name_used(behind) == row[1]


def say_two_names(row, behind):
    return row[0] == SAY and behind[0] == SAY and name_used(row) != name_used(behind)


def clash_in_cells(row, behind):
    if row[0] != WRITE and behind[0] != WRITE:
        return False
    if cells_of(row) != cells_of(behind) or never_same(place_of(row), place_of(behind)):
        return False
    # A read uses no name, so names that are used and the same are those of two writes.
    return name_used(row) != name_used(behind)


def may_trade(row, behind):
    return not needs_name(row, behind) and not say_two_names(row, behind) and not clash_in_cells(row, behind)

"""Which writes a read may see.

Words are far more than rows. So with some words two places of two bases are the same cell, and at the same time
every place that is alike to neither of the two is another cell.
"""

from seencellsdesk.places import alike, never_same
from seencellsdesk.rows import WRITE, cells_of, place_of


def is_write_alike(row, other):
    """Whether the row is a write at the very place, in the same row of cells, of the other read or write."""
    return row[0] == WRITE and cells_of(row) == cells_of(other) and alike(place_of(row), place_of(other))


def may_see_first(rows, reading):
    """Whether the read in that row may see what was there at first."""
    for row in rows[:reading]:
        if is_write_alike(row, rows[reading]):
            return False
    return True


def may_see(rows, reading, writing):
    """Whether the read in the one row may see what is in the other row ahead of it: a write, or else never."""
    read_row = rows[reading]
    write_row = rows[writing]
    if write_row[0] != WRITE or cells_of(write_row) != cells_of(read_row):
        return False
    if never_same(place_of(write_row), place_of(read_row)):
        return False
    for row in rows[writing + 1:reading]:
        if is_write_alike(row, write_row) or is_write_alike(row, read_row):
            return False
    return True


def writes_seen(rows, reading):
    return [writing for writing in range(reading) if may_see(rows, reading, writing)]

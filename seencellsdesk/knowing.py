"""What is sure in a place."""

from seencellsdesk.places import alike, never_same
from seencellsdesk.rows import READ, cells_of, name_at_place, place_of


def is_passed_over(row, place, counted):
    """Of a read or write in the row of cells asked for: whether it tells nothing of the place."""
    if row[0] == READ:
        return not alike(place_of(row), place)
    return never_same(place_of(row), place) or place_of(row) in counted


def sure_name(rows, cells, place):
    """The name that is sure in the place behind these rows, or None."""
    counted = {}
    # All writes that have counted have one name: with a second nothing is sure.
    counted_name = None
    for row in reversed(rows):
        if cells_of(row) != cells or is_passed_over(row, place, counted):
            continue
        name = name_at_place(row)
        if counted_name is not None and counted_name != name:
            return None
        if alike(place_of(row), place):
            return name
        counted[place_of(row)] = True
        counted_name = name
    return None

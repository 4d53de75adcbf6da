"""The code made smaller: first what is known already goes, then what nobody can ever see."""

from seencellsdesk.knowing import sure_name
from seencellsdesk.rows import NUMBER, READ, SAY, WRITE, cells_of, gives_name, is_looked_at, name_used, place_of
from seencellsdesk.seeing import is_write_alike, may_see


def renamed(row, stands_for):
    """The row with the name that it uses giving way to the one that it stands for."""
    if row[0] != WRITE and row[0] != SAY:
        return row
    name = name_used(row)
    return row[:-1] + (stands_for.get(name, name),)


def name_of_number(kept, number):
    for row in kept:
        if row[0] == NUMBER and row[2] == number:
            return row[1]
    return None


def known_name(kept, row):
    """The name that, behind the rows kept, has the row's number or is sure in its place; else None."""
    if row[0] == NUMBER:
        return name_of_number(kept, row[2])
    if row[0] == SAY:
        return None
    return sure_name(kept, cells_of(row), place_of(row))


def without_known(rows):
    kept = []
    stands_for = {}
    for row in rows:
        new_row = renamed(row, stands_for)
        known = known_name(kept, new_row)
        if known is not None and gives_name(row):
            stands_for[row[1]] = known
        elif known is None or known != name_used(new_row):
            kept.append(new_row)
    return kept


def is_name_used(name, rows):
    return name in [name_used(row) for row in rows]


def is_seen(row, behind):
    """Whether a read behind the write may see it."""
    rows = [row] + behind
    for reading in range(1, len(rows)):
        if rows[reading][0] == READ and may_see(rows, reading, 0):
            return True
    return False


def is_left(row, behind):
    """Whether the write may be what is found when all is done."""
    return is_looked_at(row) and not any([is_write_alike(other, row) for other in behind])


def is_wanted(row, behind):
    if row[0] == SAY:
        return True
    if row[0] == WRITE:
        return is_seen(row, behind) or is_left(row, behind)
    return is_name_used(row[1], behind)


def without_unseen(rows):
    kept = []
    for row in reversed(rows):
        if is_wanted(row, kept):
            kept.insert(0, row)
    return kept


def made_smaller(rows):
    return without_unseen(without_known(rows))

"""The calls that make up the code: each gives back the list of numbers that it answers."""

from seencellsdesk.rows import NUMBER, READ, SAY, WRITE, count_names

MOST_HANDED = 4
MOST_ROWS = 16
ROWS_OF_CELLS = 4

TOO_MANY_WORDS = -1
NO_ROOM = -1
NOT_THERE = -2


def tells_place(code, cells, base):
    """Any number tells a cell, so only the row of cells and the base can be wrong."""
    return cells < ROWS_OF_CELLS and base <= code.handed


def has_name(code, name):
    return name < count_names(code)


def put_row(code, row):
    """Comes behind the other refusals, since a lack of room is told last."""
    if len(code.rows) >= MOST_ROWS:
        return [NO_ROOM]
    code.rows.append(row)
    return [len(code.rows)]


def begin_code(code, handed):
    if handed > MOST_HANDED:
        return [TOO_MANY_WORDS]
    code.handed = handed
    code.rows = []
    return [handed]


def put_number(code, number):
    return put_row(code, (NUMBER, count_names(code), number))


def put_read(code, cells, base, number):
    if not tells_place(code, cells, base):
        return [NOT_THERE]
    return put_row(code, (READ, count_names(code), cells, base, number))


def put_write(code, cells, base, number, name):
    if not tells_place(code, cells, base) or not has_name(code, name):
        return [NOT_THERE]
    return put_row(code, (WRITE, cells, base, number, name))


def put_say(code, name):
    if not has_name(code, name):
        return [NOT_THERE]
    return put_row(code, (SAY, name))

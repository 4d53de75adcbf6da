"""Code done row by row, with words handed over."""

from seencellsdesk.places import COUNT_OF_WORDS, cell_at
from seencellsdesk.rows import NUMBER, READ, WRITE, cells_of, is_looked_at, name_used, place_of

WORD_FOR_ROW_OF_CELLS = 1000003
WORD_FOR_CELL = 7919


class Run:
    """Where a run stands. A cell's key is its row of cells and its own number; added is the s of the call."""

    def __init__(self, added, words):
        self.added = added
        self.words = words
        self.named = dict(enumerate(words))
        self.written = {}
        self.said = []


def first_word(added, key):
    return (WORD_FOR_ROW_OF_CELLS * key[0] + WORD_FOR_CELL * key[1] + added) % COUNT_OF_WORDS


def word_in(run, key):
    if key in run.written:
        return run.written[key]
    return first_word(run.added, key)


def cell_key(row, words):
    return (cells_of(row), cell_at(place_of(row), words))


def do_row(run, row):
    if row[0] == NUMBER:
        run.named[row[1]] = row[2]
    elif row[0] == READ:
        run.named[row[1]] = word_in(run, cell_key(row, run.words))
    elif row[0] == WRITE:
        run.written[cell_key(row, run.words)] = run.named[name_used(row)]
    else:
        run.said.append(run.named[name_used(row)])


def cells_to_tell(rows, words):
    """The keys of all cells looked at that the rows write, in the order in which they are told."""
    written = {}
    for row in rows:
        if row[0] == WRITE and is_looked_at(row):
            written[cell_key(row, words)] = True
    return sorted(written.keys())


def run_told(rows, told_rows, added, words):
    """A run of the rows, in numbers; its cells are those that the told rows write."""
    run = Run(added, words)
    for row in rows:
        do_row(run, row)
    told_keys = cells_to_tell(told_rows, words)
    numbers = [len(run.said)] + run.said + [len(told_keys)]
    for key in told_keys:
        numbers.extend([key[0], key[1], word_in(run, key)])
    return numbers

"""What the tests share: calls by name, answers taken apart call by call, codes made up, and a plain run of a code."""

import random

from seencellsdesk.code import answers

MOST = 4294967295
SHOWS = [5]
BETTER = [10]


def code(k):
    return [0, k]


def num(n):
    return [1, n]


def read(cells, base, c):
    return [2, cells, base, c]


def write(cells, base, c, v):
    return [3, cells, base, c, v]


def say(v):
    return [4, v]


def run(s, *words):
    return [6, s, len(words), *words]


def sees(r):
    return [7, r]


def sure(cells, base, c):
    return [8, cells, base, c]


def trade(r):
    return [9, r]


def runbetter(s, *words):
    return [11, s, len(words), *words]


def shown(k, *rows):
    """Code in numbers, from its rows as they are told there."""
    return [k, len(rows), *line(rows)]


def line(calls):
    numbers = []
    for call in calls:
        numbers.extend(call)
    return numbers


def split(told):
    parts = []
    at = 0
    while at < len(told):
        count = told[at]
        part = told[at + 1:at + 1 + count]
        if count < 1 or len(part) != count:
            raise AssertionError(f"no whole answer at {at} of {told}")
        parts.append(part)
        at += 1 + count
    return parts


def ask(*calls):
    """The answers of these calls, one list for each."""
    return split(answers(line(calls)))


def last(*calls):
    return ask(*calls)[-1]


def made_up_code(seed):
    """How many words are handed over, and the calls that put the rows; the same for the same seed."""
    source = random.Random(seed)
    k = source.choice((0, 1, 2, 2, 3))
    cells = source.choice(((0,), (2,), (0, 2), (0, 1, 2, 3)))
    numbers = source.choice(((0,), (0, 1), (5, MOST)))
    names = k
    calls = []
    for _ in range(source.randrange(17)):
        kind = source.choice((num, read, read, write, write, write, say)) if names else num
        place = (source.choice(cells), source.randrange(k + 1), source.choice(numbers))
        if kind is num:
            calls.append(num(source.choice((1, 2, MOST))))
        elif kind is read:
            calls.append(read(*place))
        elif kind is write:
            calls.append(write(*place, source.randrange(min(names, source.choice((2, 3, 20))))))
        else:
            calls.append(say(source.randrange(names)))
        names += kind in (num, read)
    return k, calls


def made_up_words(seed, k):
    """Few words, so that places of two bases are often the same cell."""
    source = random.Random(seed)
    return [source.choice((0, 1, 4, 5, 6, MOST)) for _ in range(k)]


def rows_of(k, calls):
    """The rows as they are told in numbers, from the calls that put them."""
    rows = []
    names = k
    for call in calls:
        kind = call[0] - 1
        if kind < 2:
            rows.append((kind, names, *call[1:]))
            names += 1
        else:
            rows.append((kind, *call[1:]))
    return rows


def cell_of(base, c, words):
    return ([0, *words][base] + c) % (MOST + 1)


def first_in(cells, cell, s):
    return (1000003 * cells + 7919 * cell + s) % (MOST + 1)


def play(rows, s, words):
    """The words of names, those said, and those of the cells written, when all rows are done."""
    named = dict(enumerate(words))
    said = []
    written = {}
    for row in rows:
        if row[0] == 0:
            named[row[1]] = row[2]
        elif row[0] == 1:
            key = (row[2], cell_of(row[3], row[4], words))
            named[row[1]] = written.get(key, first_in(*key, s))
        elif row[0] == 2:
            written[(row[1], cell_of(row[2], row[3], words))] = named[row[4]]
        else:
            said.append(named[row[1]])
    return named, said, written


def play_told(rows, s, words):
    """What run is to answer of these rows."""
    _, said, written = play(rows, s, words)
    keys = sorted(key for key in written if key[0] < 2)
    return [len(said), *said, len(keys), *line([*key, written[key]] for key in keys)]

"""The calls that look at the code and leave it as it is: each gives back the list of numbers that it answers."""

from seencellsdesk.building import NOT_THERE, tells_place
from seencellsdesk.knowing import sure_name
from seencellsdesk.rows import READ, in_numbers
from seencellsdesk.running import run_told
from seencellsdesk.seeing import may_see_first, writes_seen
from seencellsdesk.smaller import made_smaller
from seencellsdesk.trading import may_trade

NO_SUCH_ROW = -3
OTHER_COUNT_OF_WORDS = -5


def ask_shows(code):
    return in_numbers(code.handed, code.rows)


def ask_run(code, added, words):
    if len(words) != code.handed:
        return [OTHER_COUNT_OF_WORDS]
    return run_told(code.rows, code.rows, added, words)


def ask_sees(code, reading):
    if reading >= len(code.rows) or code.rows[reading][0] != READ:
        return [NO_SUCH_ROW]
    seen = writes_seen(code.rows, reading)
    return [int(may_see_first(code.rows, reading)), len(seen)] + seen


def ask_sure(code, cells, base, number):
    if not tells_place(code, cells, base):
        return [NOT_THERE]
    name = sure_name(code.rows, cells, (base, number))
    if name is None:
        return [0]
    return [1, name]


def ask_trade(code, at):
    if at + 1 >= len(code.rows):
        return [NO_SUCH_ROW]
    return [int(may_trade(code.rows[at], code.rows[at + 1]))]


def ask_better(code):
    return in_numbers(code.handed, made_smaller(code.rows))


def ask_runbetter(code, added, words):
    if len(words) != code.handed:
        return [OTHER_COUNT_OF_WORDS]
    return run_told(made_smaller(code.rows), code.rows, added, words)

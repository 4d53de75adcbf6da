"""The calls of one line, taken one by one from a list of whole numbers, and what they answer."""

from seencellsdesk.asking import ask_better, ask_run, ask_runbetter, ask_sees, ask_shows, ask_sure, ask_trade
from seencellsdesk.building import begin_code, put_number, put_read, put_say, put_write
from seencellsdesk.rows import Code

CALL_CODE = 0
CALL_NUM = 1
CALL_READ = 2
CALL_WRITE = 3
CALL_SAY = 4
CALL_SHOWS = 5
CALL_RUN = 6
CALL_SEES = 7
CALL_SURE = 8
CALL_TRADE = 9
CALL_BETTER = 10

# By the call's number: how many numbers lie behind it. Of run and runbetter the second tells how many more do.
ARGUMENT_COUNTS = (1, 1, 3, 4, 1, 0, 2, 1, 3, 1, 0, 2)
CALLS_WITH_WORDS = (6, 11)


def arguments_at(calls, at):
    """The numbers that belong to the call whose own number is at this index."""
    first = at + 1
    behind = first + ARGUMENT_COUNTS[calls[at]]
    if calls[at] in CALLS_WITH_WORDS:
        behind += calls[behind - 1]
    return calls[first:behind]


def answer_building(code, call, given):
    if call == CALL_CODE:
        return begin_code(code, given[0])
    if call == CALL_NUM:
        return put_number(code, given[0])
    if call == CALL_READ:
        return put_read(code, given[0], given[1], given[2])
    if call == CALL_WRITE:
        return put_write(code, given[0], given[1], given[2], given[3])
    return put_say(code, given[0])


def answer_asking(code, call, given):
    if call == CALL_SHOWS:
        return ask_shows(code)
    if call == CALL_RUN:
        return ask_run(code, given[0], given[2:])
    if call == CALL_SEES:
        return ask_sees(code, given[0])
    if call == CALL_SURE:
        return ask_sure(code, given[0], given[1], given[2])
    if call == CALL_TRADE:
        return ask_trade(code, given[0])
    if call == CALL_BETTER:
        return ask_better(code)
    return ask_runbetter(code, given[0], given[2:])


def answer_call(code, call, given):
    if call <= CALL_SAY:
        return answer_building(code, call, given)
    return answer_asking(code, call, given)


def answers(calls):
    """For each call, in order: how many numbers it answers, then these."""
    code = Code()
    told = []
    at = 0
    while at < len(calls):
        given = arguments_at(calls, at)
        answered = answer_call(code, calls[at], given)
        told.append(len(answered))
        told.extend(answered)
        at += 1 + len(given)
    return told

"""The calls of one line, taken one by one from a list of whole numbers, and what they answer."""

from seencellsdesk.building import begin_code, put_number, put_read, put_say, put_write
from seencellsdesk.rows import Code, in_numbers

CALL_CODE = 0
CALL_NUM = 1
CALL_READ = 2
CALL_WRITE = 3
CALL_SAY = 4

# By the call's number: how many numbers lie behind it. The last is shows.
ARGUMENT_COUNTS = (1, 1, 3, 4, 1, 0)


def arguments_at(calls, at):
    """The numbers that belong to the call whose own number is at this index."""
    first = at + 1
    return calls[first:first + ARGUMENT_COUNTS[calls[at]]]


def answer_call(code, call, given):
    if call == CALL_CODE:
        return begin_code(code, given[0])
    if call == CALL_NUM:
        return put_number(code, given[0])
    if call == CALL_READ:
        return put_read(code, given[0], given[1], given[2])
    if call == CALL_WRITE:
        return put_write(code, given[0], given[1], given[2], given[3])
    if call == CALL_SAY:
        return put_say(code, given[0])
    return in_numbers(code.handed, code.rows)


def answers(calls):
    """For each call, in order: how many numbers it answers, then these."""
    code = Code()
    told = []
    at = 0
    while at < len(calls):
        given = arguments_at(calls, at)
        answered = answer_call(code, calls[at], given)
        told.append(len(answered))
        told.extend(answered)
        at += 1 + len(given)
    return told

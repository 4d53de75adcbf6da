"""What the tests share: calls by name, and answers taken apart call by call."""

from seencellsdesk.code import answers

MOST = 4294967295
SHOWS = [5]


def code(k):
    return [0, k]


def num(n):
    return [1, n]


def read(cells, base, c):
    return [2, cells, base, c]


def write(cells, base, c, v):
    return [3, cells, base, c, v]


def say(v):
    return [4, v]


def line(calls):
    numbers = []
    for call in calls:
        numbers.extend(call)
    return numbers


def split(told):
    parts = []
    at = 0
    while at < len(told):
        count = told[at]
        part = told[at + 1:at + 1 + count]
        if count < 1 or len(part) != count:
            raise AssertionError(f"no whole answer at {at} of {told}")
        parts.append(part)
        at += 1 + count
    return parts


def ask(*calls):
    """The answers of these calls, one list for each."""
    return split(answers(line(calls)))


def last(*calls):
    return ask(*calls)[-1]

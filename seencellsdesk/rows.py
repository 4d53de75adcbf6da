"""Code: the words that it is handed, and its rows, each kept as the tuple of numbers that tells it."""

NUMBER = 0
READ = 1
WRITE = 2
SAY = 3


class Code:
    """What the calls of one line are about."""

    def __init__(self):
        self.handed = 0
        self.rows = []


def gives_name(row):
    return row[0] == NUMBER or row[0] == READ


def count_names(code):
    """How many names there are by now, which is also the name that the next row gives."""
    count = code.handed
    for row in code.rows:
        if gives_name(row):
            count += 1
    return count


def in_numbers(handed, rows):
    numbers = [handed, len(rows)]
    for row in rows:
        numbers.extend(row)
    return numbers

"""Questions to whole columns, each answered by a set of rows.

A set of rows is a list of words of 64 bits: the lowest bit of the first word is row 0.
"""

MOST_ROWS = 4096
WORD_ROWS = 64

SAME = 0
NOT_SAME = 1
LESS = 2
LESS_OR_SAME = 3
GREATER = 4
GREATER_OR_SAME = 5

ROWS_REFUSED = -1
NUMBER_REFUSED = -2


def where8(n, how, value, col):
    """The rows whose number, from -128 to 127, stands to value as how says."""
    return where(n, how, value, col)


def where16(n, how, value, col):
    """The rows whose number, from -32768 to 32767, stands to value as how says."""
    return where(n, how, value, col)


def where32(n, how, value, col):
    """The rows whose number, from -2147483648 to 2147483647, stands to value as how says."""
    return where(n, how, value, col)


# One answer serves every width: value is taken as it is, never cut to the
# column's width, so a value that no number of the column could be needs no care.
def where(n, how, value, col):
    if n < 0 or n > MOST_ROWS:
        return [ROWS_REFUSED]
    if how < SAME or how > GREATER_OR_SAME:
        return [NUMBER_REFUSED]
    rows = [row for row in range(n) if stands(col[row], how, value)]
    return [len(rows)] + set_of(n, rows)


def stands(number, how, value):
    if how == SAME:
        return number == value
    if how == NOT_SAME:
        return number != value
    if how == LESS:
        return number < value
    if how == LESS_OR_SAME:
        return number <= value
    if how == GREATER:
        return number > value
    return number >= value


def set_of(n, rows):
    words = [0] * ((n + WORD_ROWS - 1) // WORD_ROWS)
    for row in rows:
        place = row // WORD_ROWS
        words[place] = words[place] | (1 << (row % WORD_ROWS))
    return words

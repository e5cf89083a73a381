"""Questions to whole columns, each answered by a set of rows.

A set of rows is a list of words of 64 bits: the lowest bit of the first word is row 0.
"""

MOST_ROWS = 4096
WORD_ROWS = 64
FULL_WORD = 18446744073709551615
FULL_BYTE = 255
HIGHEST_BIT = 128

ROWS_REFUSED = -1
NUMBER_REFUSED = -2

# How a number stands to a value.
SAME = 0
NOT_SAME = 1
LESS = 2
LESS_OR_SAME = 3
GREATER = 4
GREATER_OR_SAME = 5

# How two sets become one.
BOTH = 0
EITHER = 1
ONE_ALONE = 2
BOTH_OR_NONE = 3
WITHOUT = 4
OR_NOT = 5
NOT = 6

# Single floating numbers by their bits.
SIGN_BIT = 2147483648
INFINITE = 2139095040

# The kinds of a step of rules; those from 1 to 5 join two sets, by the how that is one less.
PUSH = 0
INVERT = 6
SHIFT = 7
FILL = 8
COPY = 9
EXCHANGE = 10

# By kind: how many sets a step looks at, so how many there must be.
SETS_NEEDED = (0, 2, 2, 2, 2, 2, 1, 1, 2, 1, 2)
STEP_NUMBERS = 4
MOST_STEPS = 64
MOST_SETS = 16
TABLE_COLUMNS = 8


def where8(n, how, value, col):
    """The rows whose number, from -128 to 127, stands to value as how says."""
    return where(n, how, value, col)


def where16(n, how, value, col):
    """The rows whose number, from -32768 to 32767, stands to value as how says."""
    return where(n, how, value, col)


def where32(n, how, value, col):
    """The rows whose number, from -2147483648 to 2147483647, stands to value as how says."""
    return where(n, how, value, col)


def where64(n, how, value, col):
    """The rows whose number, of 64 bits with a sign, stands to value as how says."""
    return where(n, how, value, col)


def wherebits(n, how, value, col):
    """The rows whose single floating number, told by its bits, stands to value's as how says."""
    if rows_refused(n):
        return [ROWS_REFUSED]
    if how_refused(how):
        return [NUMBER_REFUSED]
    return told(n, set_of(n, [row for row in range(n) if single_stands(col[row], how, value)]))


def join(n, how, a, b):
    """The rows of a and b put together as how says; where how is 6, b isn't looked at."""
    if rows_refused(n):
        return [ROWS_REFUSED]
    if how < BOTH or how > NOT:
        return [NUMBER_REFUSED]
    return told(n, joined(n, how, a, b))


def shift(n, by, a):
    """The rows by places further up than those of a (below 0: down)."""
    if rows_refused(n):
        return [ROWS_REFUSED]
    return told(n, shifted(n, by, a))


def fill(n, a, on):
    """The rows of on that are in a, and those that follow such a one without a gap in on."""
    if rows_refused(n):
        return [ROWS_REFUSED]
    return told(n, filled(n, a, on))


def ends(n, a):
    """How many runs a has, then the rows that begin them, then the rows that end them."""
    if rows_refused(n):
        return [ROWS_REFUSED]
    first = joined(n, WITHOUT, a, shifted(n, 1, a))
    last = joined(n, WITHOUT, a, shifted(n, -1, a))
    return told(n, first) + last


def test(n, a, b):
    """1 if no row is in both, plus 2 if all of b's are in a, plus 4 if a has all rows, plus 8 if none."""
    if rows_refused(n):
        return [ROWS_REFUSED]
    answer = 0
    if is_empty(joined(n, BOTH, a, b)):
        answer += 1
    if is_empty(joined(n, WITHOUT, b, a)):
        answer += 2
    if is_empty(joined(n, NOT, a, [])):
        answer += 4
    if is_empty(cut(n, a)):
        answer += 8
    return [answer]


def nth(n, k, a):
    """Which row is the k-th of a; the first is 0."""
    if rows_refused(n):
        return [ROWS_REFUSED]
    rows = rows_of(n, a)
    if k < 0 or k >= len(rows):
        return [NUMBER_REFUSED]
    return [rows[k]]


def bytes_of(n, a):
    """How many rows a has, then a byte for each row: 255 for those of a, 0 for the others."""
    if rows_refused(n):
        return [ROWS_REFUSED]
    return [len(rows_of(n, a))] + [FULL_BYTE if has_row(a, row) else 0 for row in range(n)]


def ofbytes(n, given):
    """The rows whose byte has its highest bit."""
    if rows_refused(n):
        return [ROWS_REFUSED]
    return told(n, set_of(n, [row for row in range(n) if given[row] >= HIGHEST_BIT]))


def pick(n, col, a):
    """How many rows a has, then col's numbers of these rows, in order."""
    if rows_refused(n):
        return [ROWS_REFUSED]
    rows = rows_of(n, a)
    return [len(rows)] + [col[row] for row in rows]


def put(n, col, a, given):
    """How many rows a has, then col, where a's rows have given's numbers from its first on."""
    if rows_refused(n):
        return [ROWS_REFUSED]
    rows = rows_of(n, a)
    result = list(col)
    for place, row in enumerate(rows):
        result[row] = given[place]
    return [len(rows)] + result


def choose(n, x, y, a):
    """How many rows a has, then x's numbers for the rows of a, y's for the others."""
    if rows_refused(n):
        return [ROWS_REFUSED]
    return [len(rows_of(n, a))] + [x[row] if has_row(a, row) else y[row] for row in range(n)]


def add(n, by, col, a):
    """How many rows over has, then col with by more in a's rows, then over: the rows whose sum didn't fit."""
    if rows_refused(n):
        return [ROWS_REFUSED]
    sums = [col[row] + by if has_row(a, row) else col[row] for row in range(n)]
    kept = [in_32_bits(number) for number in sums]
    # What nothing was added to is a number of 32 bits still, so over has only rows of a.
    over = [row for row in range(n) if kept[row] != sums[row]]
    return [len(over)] + kept + set_of(n, over)


def rules(n, count, table, steps):
    """The one set that the steps leave on the stack."""
    if rows_refused(n):
        return [ROWS_REFUSED]
    if count < 0 or count > MOST_STEPS:
        return [NUMBER_REFUSED]
    stack = []
    for place in range(count):
        step = steps[place * STEP_NUMBERS:(place + 1) * STEP_NUMBERS]
        if step_refused(step, len(stack)):
            return [NUMBER_REFUSED]
        stack = after_step(n, table, step, stack)
    if len(stack) != 1:
        return [NUMBER_REFUSED]
    return told(n, stack[0])


def rows_refused(n):
    return n < 0 or n > MOST_ROWS


def how_refused(how):
    return how < SAME or how > GREATER_OR_SAME


# One answer serves every width: value is taken as it is, never cut to the
# column's width, so a value that no number of the column could be needs no care.
def where(n, how, value, col):
    if rows_refused(n):
        return [ROWS_REFUSED]
    if how_refused(how):
        return [NUMBER_REFUSED]
    return told(n, set_where(n, how, value, col))


def set_where(n, how, value, col):
    return set_of(n, [row for row in range(n) if stands(col[row], how, value)])


def stands(number, how, value):
    if how == SAME:
        return number == value
    if how == NOT_SAME:
        return number != value
    if how == LESS:
        return number < value
    if how == LESS_OR_SAME:
        return number <= value
    if how == GREATER:
        return number > value
    return number >= value


def single_stands(number, how, value):
    if not_a_number(number) or not_a_number(value):
        return how == NOT_SAME
    return stands(single_rank(number), how, single_rank(value))


# Beyond the infinite ones lie the bits that are no number, whatever their sign.
def not_a_number(bits):
    return bits % SIGN_BIT > INFINITE


# The bits below the sign grow as the number's size does, so with the sign put
# to them they are in the numbers' order, and 0 and -0 fall together.
def single_rank(bits):
    if bits < SIGN_BIT:
        return bits
    return SIGN_BIT - bits


def joined(n, how, a, b):
    if how == NOT:
        return cut(n, [FULL_WORD ^ word for word in a])
    return cut(n, [joined_word(how, x, y) for x, y in zip(a, b)])


# What is not in a word is told by ^ FULL_WORD: ~ would give a number below 0.
def joined_word(how, x, y):
    if how == BOTH:
        return x & y
    if how == EITHER:
        return x | y
    if how == ONE_ALONE:
        return x ^ y
    if how == BOTH_OR_NONE:
        return x ^ y ^ FULL_WORD
    if how == WITHOUT:
        return x & (y ^ FULL_WORD)
    return x | (y ^ FULL_WORD)


def in_32_bits(number):
    return (number + 2 ** 31) % 2 ** 32 - 2 ** 31


def step_refused(step, height):
    kind = step[0]
    if kind < PUSH or kind > EXCHANGE:
        return True
    if kind == PUSH and (step[1] < 0 or step[1] >= TABLE_COLUMNS or how_refused(step[2])):
        return True
    # No other kind leaves more sets than it found.
    if (kind == PUSH or kind == COPY) and height == MOST_SETS:
        return True
    return height < SETS_NEEDED[kind]


def after_step(n, table, step, stack):
    kind = step[0]
    if kind == PUSH:
        column = table[step[1] * n:(step[1] + 1) * n]
        return stack + [set_where(n, step[2], step[3], column)]
    top = stack[-1]
    if kind == COPY:
        return stack + [top]
    if kind == INVERT:
        return stack[:-1] + [joined(n, NOT, top, [])]
    if kind == SHIFT:
        return stack[:-1] + [shifted(n, step[3], top)]
    below = stack[-2]
    if kind == EXCHANGE:
        return stack[:-2] + [top, below]
    if kind == FILL:
        return stack[:-2] + [filled(n, below, top)]
    return stack[:-2] + [joined(n, kind - 1, below, top)]


# Python's division rounds down, so by is so many words, up or down, and then 0
# to 63 rows up: one way of moving serves both directions.
def shifted(n, by, words):
    whole = by // WORD_ROWS
    rest = by % WORD_ROWS
    given = cut(n, words)
    moved = []
    for place in range(len(given)):
        high = word_at(given, place - whole) << rest
        low = word_at(given, place - whole - 1) >> (WORD_ROWS - rest)
        moved.append((high | low) & FULL_WORD)
    return cut(n, moved)


def word_at(words, place):
    if place < 0 or place >= len(words):
        return 0
    return words[place]


# In the sum of begun and on a carry starts at a row of begun, is handed up by
# each further row of on, and ends where on does: it comes to just the rows that
# lie behind. A sum differs from ^ by the carries that came in.
def filled(n, a, on):
    carry = 0
    words = []
    for x, y in zip(a, on):
        begun = x & y
        total = begun + y + carry
        behind = total ^ begun ^ y
        words.append((begun | behind) & y)
        carry = total >> WORD_ROWS
    return cut(n, words)


# The bits from n on may be anything in a set that is handed over.
def cut(n, words):
    rest = n % WORD_ROWS
    if rest == 0:
        return list(words)
    return words[:-1] + [words[-1] % (1 << rest)]


def set_of(n, rows):
    words = [0] * ((n + WORD_ROWS - 1) // WORD_ROWS)
    for row in rows:
        place = row // WORD_ROWS
        words[place] = words[place] | (1 << (row % WORD_ROWS))
    return words


def rows_of(n, words):
    return [row for row in range(n) if has_row(words, row)]


def has_row(words, row):
    return (words[row // WORD_ROWS] >> (row % WORD_ROWS)) % 2 == 1


def is_empty(words):
    return not any(words)


def told(n, words):
    return [len(rows_of(n, words))] + words

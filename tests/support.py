"""What the tests share: the numbers at the edges, sets told another way, and one way to ask."""

import copy
import unittest

from rowsets import columns

LOW = -2147483648
HIGH = 2147483647
FULL = 2 ** 64 - 1
EDGES_OF_N = (0, 1, 63, 64, 65, 127, 128, 4095, 4096)
REFUSED_N = (-1, 4097, LOW, HIGH)
UNEVEN_N = (1, 63, 65, 127, 4095)


class ReadOnly(list):
    """A list that fails at any try to change it, so that not even a passing change is missed."""


def refuse(self, *args, **kwargs):
    raise AssertionError("the list that was handed in was changed")


for change in ("__setitem__", "__delitem__", "__iadd__", "__imul__", "append", "extend", "insert",
               "pop", "remove", "clear", "reverse", "sort"):
    setattr(ReadOnly, change, refuse)


def words_of(n, rows):
    """A set by way of one long number, cut into words at the end."""
    bits = "".join("1" if row in rows else "0" for row in range(n - 1, -1, -1))
    whole = int(bits or "0", 2)
    return [whole >> (64 * k) & FULL for k in range(-(-n // 64))]


def told(n, rows):
    return [len(rows)] + words_of(n, rows)


def dirty(n, words):
    """The same set several times over, each with something else in the bits from n on."""
    found = [list(words)]
    if n % 64:
        free = FULL >> n % 64 << n % 64
        for more in (free, free & 0xAAAAAAAAAAAAAAAA, 1 << n % 64, 1 << 63):
            found.append(words[:-1] + [words[-1] | more & free])
    return found


def sets_over(n):
    """Some sets of n rows: none, all, the edges of words and of n, runs, and a mixture."""
    edges = {row for row in (0, 1, 62, 63, 64, 65, 126, 127, 128, n - 2, n - 1) if 0 <= row < n}
    every = set(range(n))
    mixed = {row for row in range(n) if row * row % 7 < 3}
    runs = {row for row in range(n) if row % 23 < 11}
    across = {row for row in range(n) if 60 <= row % 64 or row % 64 < 3}
    found = []
    for rows in (set(), every, edges, every - edges, mixed, runs, across):
        if rows not in found:
            found.append(rows)
    return found


def numbers_over(n):
    """n numbers of 32 bits, each of them another, with both edges at both ends."""
    edges = {0: LOW, 1: HIGH, n - 2: LOW + 1, n - 1: HIGH - 1}
    return [edges.get(row, row * 1000003 - 2000000000) for row in range(n)]


class Asking(unittest.TestCase):
    """Every question is asked in a way that shows a change of what was handed in, or a thing kept."""

    def ask(self, name, *given):
        call = getattr(columns, name)
        before = copy.deepcopy(given)
        answer = call(*given)
        self.assertEqual(given, before, (name, "changed what was handed in"))
        self.assertIs(type(answer), list)
        for number in answer:
            self.assertIs(type(number), int)
        kept = list(answer)
        # Whoever gets an answer may do with it what he likes.
        answer.append(77)
        answer[0] = 99
        self.assertEqual(given, before, (name, "gave back what was handed in"))
        locked = [ReadOnly(one) if isinstance(one, list) else one for one in given]
        self.assertEqual(call(*locked), kept, (name, "answered otherwise the second time"))
        return kept

    def check(self, wanted, name, *given):
        self.assertEqual(self.ask(name, *given), wanted, (name, given[:2]))

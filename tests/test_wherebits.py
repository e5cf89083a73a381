"""Point 2: wherebits, and what the document says ahead of it."""

import operator
import struct
import unittest

from support import EDGES_OF_N, HIGH, LOW, REFUSED_N, Asking, told

HOWS = (operator.eq, operator.ne, operator.lt, operator.le, operator.gt, operator.ge)
REFUSED_HOW = (-1, 6, LOW, HIGH)
ZERO, MINUS_ZERO = 0, 2147483648
INFINITE, MINUS_INFINITE = 2139095040, 4286578688
NO_NUMBERS = (2139095041, 2143289344, 2147483647, 4286578689, 4290772992, 4294967295)
NUMBERS = (
    ZERO, MINUS_ZERO,
    1, 2, 8388607, 2147483649, 2147483650, 2155872255,     # subnormal
    8388608, 2155872256, 8388609,                          # the smallest that aren't
    1065353216, 3212836864, 1065353217, 1073741824, 3221225472,
    2139095039, 4286578687,                                # the greatest
    INFINITE, MINUS_INFINITE)


def number_of(bits):
    return struct.unpack("<f", struct.pack("<I", bits))[0]


def expected(how, value, col):
    """The machine's own floating numbers, which keep to IEEE 754."""
    return told(len(col), {row for row, bits in enumerate(col)
                           if HOWS[how](number_of(bits), number_of(value))})


class WhereBits(Asking):
    def where(self, n, how, value, col):
        return self.ask("wherebits", n, how, value, col)

    def compare(self, how, value, col):
        self.assertEqual(self.where(len(col), how, value, col), expected(how, value, col), (how, value))

    def spread(self, n):
        values = NUMBERS + NO_NUMBERS
        return [values[(row * row + row // 3) % len(values)] for row in range(n)]

    def test_written_answers_for_each_how(self):
        # -infinite, -1, -0, 0, 1, 2, infinite, not a number
        col = [4286578688, 3212836864, 2147483648, 0, 1065353216, 1073741824, 2139095040, 2143289344]
        self.assertEqual(self.where(8, 0, 1065353216, col), [1, 0b00010000])
        self.assertEqual(self.where(8, 1, 1065353216, col), [7, 0b11101111])
        self.assertEqual(self.where(8, 2, 1065353216, col), [4, 0b00001111])
        self.assertEqual(self.where(8, 3, 1065353216, col), [5, 0b00011111])
        self.assertEqual(self.where(8, 4, 1065353216, col), [2, 0b01100000])
        self.assertEqual(self.where(8, 5, 1065353216, col), [3, 0b01110000])

    def test_zero_and_minus_zero_are_the_same(self):
        for value in (ZERO, MINUS_ZERO):
            for how, wanted in enumerate(([2, 3], [0, 0], [0, 0], [2, 3], [0, 0], [2, 3])):
                self.check(wanted, "wherebits", 2, how, value, [ZERO, MINUS_ZERO])

    def test_below_zero_the_greater_bits_are_the_smaller_number(self):
        col = [3212836864, 3221225472]  # -1, -2
        self.check([1, 0b10], "wherebits", 2, 2, 3212836864, col)
        self.check([1, 0b01], "wherebits", 2, 4, 3221225472, col)
        self.check([2, 0b11], "wherebits", 2, 2, MINUS_ZERO, col)
        self.check([2, 0b11], "wherebits", 2, 2, 1, col)

    def test_subnormal_ones_are_not_zero(self):
        for zero in (ZERO, MINUS_ZERO):
            self.check([0, 0], "wherebits", 4, 0, zero, [1, 8388607, 2147483649, 2155872255])
            self.check([2, 0b0011], "wherebits", 4, 4, zero, [1, 8388607, 2147483649, 2155872255])
            self.check([2, 0b1100], "wherebits", 4, 2, zero, [1, 8388607, 2147483649, 2155872255])
        self.check([1, 0b01], "wherebits", 2, 2, 2, [1, 2])

    def test_the_infinite_ones(self):
        finite = [bits for bits in NUMBERS if bits not in (INFINITE, MINUS_INFINITE)]
        self.assertEqual(self.where(len(finite), 2, INFINITE, finite)[0], len(finite))
        self.assertEqual(self.where(len(finite), 4, MINUS_INFINITE, finite)[0], len(finite))
        for value in (INFINITE, MINUS_INFINITE):
            self.check([1, 1], "wherebits", 1, 0, value, [value])
            self.check([1, 1], "wherebits", 1, 3, value, [value])
            self.check([1, 1], "wherebits", 1, 5, value, [value])
        self.check([1, 1], "wherebits", 1, 2, INFINITE, [MINUS_INFINITE])

    def test_not_a_number_on_either_side_and_on_both(self):
        for one in NO_NUMBERS:
            for other in NUMBERS + NO_NUMBERS:
                for how in range(6):
                    wanted = [1, 1] if how == 1 else [0, 0]
                    self.check(wanted, "wherebits", 1, how, one, [other])
                    self.check(wanted, "wherebits", 1, how, other, [one])

    def test_every_number_against_every_other(self):
        col = list(NUMBERS + NO_NUMBERS)
        for value in col:
            for how in range(6):
                self.compare(how, value, col)

    def test_numbers_all_over_the_range(self):
        col = [4294967295 * row // 499 for row in range(500)]
        for value in col[::37]:
            for how in range(6):
                self.compare(how, value, col)

    def test_n_at_its_edges(self):
        for n in EDGES_OF_N:
            for value in (ZERO, 1065353216, MINUS_INFINITE, 2143289344):
                for how in range(6):
                    self.compare(how, value, self.spread(n))

    def test_n_refused(self):
        for n in REFUSED_N:
            for how in (0, 1, 2, 3, 4, 5) + REFUSED_HOW:
                for value in (0, 2143289344, 4294967295):
                    self.check([-1], "wherebits", n, how, value, [])

    def test_how_refused(self):
        for how in REFUSED_HOW:
            for n in EDGES_OF_N:
                for value in (0, 2143289344, 4294967295):
                    self.check([-2], "wherebits", n, how, value, [0] * n)


if __name__ == "__main__":
    unittest.main()

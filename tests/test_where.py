"""Point 1: where8, where16, where32 and where64, and what the document says ahead of it."""

import operator
import unittest

from support import EDGES_OF_N, FULL, HIGH, LOW, REFUSED_N, Asking, told

HOWS = (operator.eq, operator.ne, operator.lt, operator.le, operator.gt, operator.ge)
REFUSED_HOW = (-1, 6, LOW, HIGH)


def expected(how, value, col):
    return told(len(col), {row for row, number in enumerate(col) if HOWS[how](number, value)})


class WhereTests:
    """What holds for each of the four calls; name, low and high come from the classes below."""

    value_low, value_high = LOW, HIGH

    def where(self, n, how, value, col):
        return self.ask(self.name, n, how, value, col)

    def compare(self, how, value, col):
        self.assertEqual(self.where(len(col), how, value, col), expected(how, value, col),
                         (self.name, len(col), how, value))

    def spread(self, n):
        """n numbers over the whole range of the column, its edges and 0 among them."""
        middle = [0, 1, -1, 5, -7, 100, -100]
        ends = [self.low, self.high, self.low + 1, self.high - 1]
        step = (self.high - self.low) // 13
        walk = [self.low + step * k for k in range(14)]
        values = middle + ends + walk
        return [values[(row * row + row // 3) % len(values)] for row in range(n)]

    def values_at_edges(self):
        near = [self.low - 1, self.low, self.low + 1, self.high - 1, self.high, self.high + 1]
        # What a value would become if it were cut to the column's width.
        wrapped = [self.high - self.low + 1, self.low - self.high - 1, 2 * (self.high + 1) + 5]
        return [v for v in near + wrapped + [0, LOW, HIGH, self.value_low, self.value_high]
                if self.value_low <= v <= self.value_high]

    def test_written_answers_for_each_how(self):
        col = [3, -4, 3, 0, 7, -128, 127, 3]
        self.assertEqual(self.where(8, 0, 3, col), [3, 0b10000101])
        self.assertEqual(self.where(8, 1, 3, col), [5, 0b01111010])
        self.assertEqual(self.where(8, 2, 3, col), [3, 0b00101010])
        self.assertEqual(self.where(8, 3, 3, col), [6, 0b10101111])
        self.assertEqual(self.where(8, 4, 3, col), [2, 0b01010000])
        self.assertEqual(self.where(8, 5, 3, col), [5, 0b11010101])

    def test_written_answers_over_several_words(self):
        col = [0] * 130
        for row in (0, 63, 64, 127, 128, 129):
            col[row] = 9
        self.assertEqual(self.where(130, 0, 9, col), [6, 2 ** 63 + 1, 2 ** 63 + 1, 3])
        self.assertEqual(self.where(130, 4, 0, col), [6, 2 ** 63 + 1, 2 ** 63 + 1, 3])
        self.assertEqual(self.where(130, 1, 9, col), [124, 2 ** 63 - 2, 2 ** 63 - 2, 0])

    def test_the_sign_counts(self):
        col = [-1, 0, 1, self.low, self.high]
        self.assertEqual(self.where(5, 2, 0, col), [2, 0b01001])
        self.assertEqual(self.where(5, 4, 0, col), [2, 0b10100])
        self.assertEqual(self.where(5, 3, -1, col), [2, 0b01001])
        self.assertEqual(self.where(5, 5, -1, col), [4, 0b10111])

    def test_ordinary_columns(self):
        for n in (5, 40, 100, 200, 1000):
            for value in (0, 1, -7, 100, self.low, self.high):
                for how in range(6):
                    self.compare(how, value, self.spread(n))

    def test_n_at_its_edges(self):
        for n in EDGES_OF_N:
            for value in (0, 5, self.low, self.high):
                for how in range(6):
                    self.compare(how, value, self.spread(n))

    def test_all_rows_and_no_row_at_the_edges_of_n(self):
        for n in EDGES_OF_N:
            whole, rest = divmod(n, 64)
            every = [FULL] * whole + ([2 ** rest - 1] if rest else [])
            for how in range(6):
                holds = HOWS[how](5, 5)
                wanted = [n] + every if holds else [0] + [0] * len(every)
                self.assertEqual(self.where(n, how, 5, [5] * n), wanted, (n, how))

    def test_each_row_alone_has_its_own_bit(self):
        for row in range(200):
            col = [0] * 200
            col[row] = 1
            words = [0, 0, 0, 0]
            words[row // 64] = 2 ** (row % 64)
            self.assertEqual(self.where(200, 0, 1, col), [1] + words, row)

    def test_no_rows(self):
        for how in range(6):
            self.assertEqual(self.where(0, how, 0, []), [0])

    def test_n_refused(self):
        for n in REFUSED_N:
            for how in range(6):
                for value in (0, LOW, HIGH):
                    self.assertEqual(self.where(n, how, value, []), [-1], (n, how, value))

    def test_how_refused(self):
        for how in REFUSED_HOW:
            for n in EDGES_OF_N:
                for value in (0, LOW, HIGH):
                    self.assertEqual(self.where(n, how, value, [0] * n), [-2], (n, how, value))

    def test_n_is_refused_ahead_of_how(self):
        for n in REFUSED_N:
            for how in REFUSED_HOW:
                self.assertEqual(self.where(n, how, 0, []), [-1], (n, how))

    def test_value_at_and_beyond_the_edges(self):
        for value in self.values_at_edges():
            for how in range(6):
                for n in (1, 64, 70):
                    self.compare(how, value, self.spread(n))

    def test_value_that_no_number_could_be(self):
        col = [self.low, -1, 0, 1, self.high]
        for value in self.values_at_edges():
            if self.low <= value <= self.high:
                continue
            above = value > self.high
            for how, holds in enumerate((False, True, above, above, not above, not above)):
                wanted = [5, 31] if holds else [0, 0]
                self.assertEqual(self.where(5, how, value, col), wanted, (how, value))


class Where8(WhereTests, Asking):
    name, low, high = "where8", -128, 127

    def test_the_edges_by_number(self):
        for value in (-128, 127, -129, 128, LOW, HIGH, 255, 256, -256):
            for how in range(6):
                self.compare(how, value, list(range(-128, 128)))


class Where16(WhereTests, Asking):
    name, low, high = "where16", -32768, 32767

    def test_the_edges_by_number(self):
        col = [-32768, -32767, -129, -128, -1, 0, 1, 127, 128, 255, 256, 32766, 32767]
        for value in (-32768, 32767, -32769, 32768, LOW, HIGH, 65535, 65536, -65536):
            for how in range(6):
                self.compare(how, value, col)


class Where32(WhereTests, Asking):
    name, low, high = "where32", LOW, HIGH

    def test_the_edges_by_number(self):
        col = [LOW, LOW + 1, -65536, -32769, -1, 0, 1, 32768, 65536, HIGH - 1, HIGH]
        for value in (LOW, HIGH, LOW + 1, HIGH - 1, 0, -1):
            for how in range(6):
                self.compare(how, value, col)


class Where64(WhereTests, Asking):
    name, low, high = "where64", -2 ** 63, 2 ** 63 - 1
    value_low, value_high = low, high

    def test_the_edges_by_number(self):
        col = [self.low, self.low + 1, LOW - 1, LOW, -1, 0, 1, HIGH, HIGH + 1, self.high - 1, self.high]
        for value in col + [2 ** 32, -2 ** 32]:
            for how in range(6):
                self.compare(how, value, col)

    def test_written_answers_at_the_edges(self):
        col = [-9223372036854775808, -9223372036854775807, 9223372036854775806, 9223372036854775807]
        self.assertEqual(self.where(4, 0, -9223372036854775808, col), [1, 0b0001])
        self.assertEqual(self.where(4, 4, -9223372036854775808, col), [3, 0b1110])
        self.assertEqual(self.where(4, 0, 9223372036854775807, col), [1, 0b1000])
        self.assertEqual(self.where(4, 2, 9223372036854775807, col), [3, 0b0111])

    def test_numbers_that_differ_by_1_beyond_53_bits(self):
        for middle in (2 ** 53 + 1, 2 ** 54 + 1, 2 ** 60, 2 ** 63 - 3, 9007199254740993):
            for value in (middle, -middle):
                col = [value - 1, value, value + 1]
                self.assertEqual(self.where(3, 0, value, col), [1, 0b010])
                self.assertEqual(self.where(3, 1, value, col), [2, 0b101])
                self.assertEqual(self.where(3, 2, value, col), [1, 0b001])
                self.assertEqual(self.where(3, 3, value, col), [2, 0b011])
                self.assertEqual(self.where(3, 4, value, col), [1, 0b100])
                self.assertEqual(self.where(3, 5, value, col), [2, 0b110])

    def test_numbers_that_are_the_same_but_for_their_upper_half(self):
        col = [5, 5 + 2 ** 32, 5 - 2 ** 32, 5 + 2 ** 62]
        self.assertEqual(self.where(4, 0, 5, col), [1, 0b0001])
        self.assertEqual(self.where(4, 0, 5 + 2 ** 32, col), [1, 0b0010])


if __name__ == "__main__":
    unittest.main()

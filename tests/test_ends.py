"""Point 6: ends, and what the document says ahead of it of sets that are handed over."""

import unittest

from support import EDGES_OF_N, FULL, REFUSED_N, UNEVEN_N, Asking, dirty, sets_over, told, words_of


def expected(n, a):
    first = {row for row in a if row - 1 not in a}
    last = {row for row in a if row + 1 not in a}
    return told(n, first) + words_of(n, last)


class Ends(Asking):
    def test_written_answers(self):
        self.check([0, 0, 0], "ends", 8, [0])
        self.check([1, 0b00000100, 0b00010000], "ends", 8, [0b00011100])
        self.check([2, 0b00100001, 0b10000010], "ends", 8, [0b11100011])
        self.check([1, 0b00000001, 0b10000000], "ends", 8, [0b11111111])
        self.check([4, 0b01010101, 0b01010101], "ends", 8, [0b01010101])
        self.check([1, 1, 1], "ends", 1, [1])

    def test_runs_across_the_edges_of_words(self):
        self.check([1, 2 ** 63, 0, 0, 1], "ends", 128, [2 ** 63, 1])
        self.check([1, 2 ** 62, 0, 0, 0, 0, 2], "ends", 192, [2 ** 62 + 2 ** 63, FULL, 3])
        self.check([2, 2 ** 63, 2, 2 ** 63, 2], "ends", 128, [2 ** 63, 2])
        self.check([1, 0, 1, 0, 2 ** 63], "ends", 128, [0, FULL])
        self.check([1, 1, 0, 2 ** 63, 0], "ends", 128, [FULL, 0])

    def test_every_set_of_few_rows(self):
        for n in (1, 2, 3, 4, 5, 6):
            for bits in range(2 ** n):
                self.check(expected(n, {row for row in range(n) if bits >> row & 1}), "ends", n, [bits])

    def test_n_at_its_edges(self):
        for n in EDGES_OF_N + (5, 100, 200):
            for a in sets_over(n):
                self.check(expected(n, a), "ends", n, words_of(n, a))

    def test_one_run_to_the_last_row(self):
        for n in EDGES_OF_N[1:]:
            self.check(told(n, {0}) + words_of(n, {n - 1}), "ends", n, words_of(n, set(range(n))))

    def test_the_bits_from_n_on_may_be_anything(self):
        for n in UNEVEN_N:
            for a in sets_over(n):
                for one in dirty(n, words_of(n, a)):
                    self.check(expected(n, a), "ends", n, one)

    def test_n_refused(self):
        for n in REFUSED_N:
            self.check([-1], "ends", n, [])


if __name__ == "__main__":
    unittest.main()

"""Point 7: test, and what the document says ahead of it of sets that are handed over."""

import unittest

from support import EDGES_OF_N, FULL, REFUSED_N, UNEVEN_N, Asking, dirty, sets_over, words_of


def expected(n, a, b):
    return [(not a & b) + 2 * (b <= a) + 4 * (len(a) == n) + 8 * (not a)]


class Test(Asking):
    def test_each_part_on_and_off(self):
        self.check([0], "test", 4, [0b0011], [0b0101])      # one row in both, one of b's not in a
        self.check([1], "test", 4, [0b0011], [0b0100])      # none in both
        self.check([2], "test", 4, [0b0011], [0b0001])      # b's one is in a
        self.check([3], "test", 4, [0b0011], [0b0000])      # b has none
        self.check([6], "test", 4, [0b1111], [0b0100])      # a has all
        self.check([7], "test", 4, [0b1111], [0b0000])
        self.check([9], "test", 4, [0b0000], [0b0100])      # a has none
        self.check([11], "test", 4, [0b0000], [0b0000])

    def test_with_no_rows_all_of_it_holds(self):
        self.check([15], "test", 0, [], [])

    def test_every_word_counts(self):
        full = [FULL, FULL, 3]
        for place in range(3):
            one = [0, 0, 0]
            one[place] = 2
            rest = list(full)
            rest[place] -= 2
            self.check([2], "test", 130, one, one)
            self.check([9], "test", 130, [0, 0, 0], one)
            self.check([1], "test", 130, rest, one)
            self.check([0], "test", 130, rest, full)
            self.check([3], "test", 130, rest, [0, 0, 0])
            self.check([6], "test", 130, full, one)

    def test_every_pair_over_few_rows(self):
        for n in (1, 2, 3, 4):
            for a in range(2 ** n):
                for b in range(2 ** n):
                    rows = [{row for row in range(n) if bits >> row & 1} for bits in (a, b)]
                    self.check(expected(n, *rows), "test", n, [a], [b])

    def test_n_at_its_edges(self):
        for n in EDGES_OF_N + (5, 100, 200):
            for a in sets_over(n):
                for b in sets_over(n):
                    self.check(expected(n, a, b), "test", n, words_of(n, a), words_of(n, b))

    def test_the_bits_from_n_on_may_be_anything(self):
        for n in UNEVEN_N:
            for a in sets_over(n)[:3]:
                for b in sets_over(n)[:3]:
                    for one in dirty(n, words_of(n, a)):
                        for other in dirty(n, words_of(n, b)):
                            self.check(expected(n, a, b), "test", n, one, other)

    def test_n_refused(self):
        for n in REFUSED_N:
            self.check([-1], "test", n, [], [])


if __name__ == "__main__":
    unittest.main()

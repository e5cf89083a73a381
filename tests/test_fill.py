"""Point 5: fill, and what the document says ahead of it of sets that are handed over."""

import unittest

from support import EDGES_OF_N, FULL, REFUSED_N, UNEVEN_N, Asking, dirty, sets_over, told, words_of


def expected(n, a, on):
    """Row by row: one goes on from each row of a that is in on, until on has a gap."""
    rows = set()
    for row in a & on:
        while row in on and row not in rows:
            rows.add(row)
            row += 1
    return told(n, rows)


class Fill(Asking):
    def compare(self, n, a, on):
        self.check(expected(n, a, on), "fill", n, words_of(n, a), words_of(n, on))

    def test_written_answers(self):
        self.check([3, 0b01110], "fill", 5, [0b00010], [0b01110])    # the run begins at the row
        self.check([2, 0b01100], "fill", 5, [0b00100], [0b01110])    # it begins before it
        self.check([0, 0b00000], "fill", 5, [0b00001], [0b01110])    # it begins behind it
        self.check([0, 0b00000], "fill", 5, [0b10000], [0b01110])    # it ended before it
        self.check([2, 0b01100], "fill", 5, [0b01100], [0b01110])    # two rows of one run
        self.check([3, 0b11001], "fill", 5, [0b01001], [0b11001])    # two runs
        self.check([1, 0b00010], "fill", 5, [0b00010], [0b11010])    # a gap isn't passed

    def test_rows_that_are_not_in_on_are_gone(self):
        self.check([0, 0], "fill", 8, [0b11111111], [0])
        self.check([1, 0b100], "fill", 8, [0b11111111], [0b100])
        self.check([0, 0], "fill", 8, [0b00001001], [0b00110110])

    def test_nothing_to_go_from_or_on(self):
        for n in EDGES_OF_N:
            every = set(range(n))
            for a in sets_over(n):
                self.compare(n, a, set())
                self.compare(n, set(), a)
                self.compare(n, a, every)
                self.compare(n, every, a)

    def test_runs_across_the_edges_of_words(self):
        self.check([2, 2 ** 63, 1], "fill", 128, [2 ** 63, 0], [FULL, 1])
        self.check([67, 2 ** 63 + 2 ** 62, FULL, 1], "fill", 192, [2 ** 62, 0, 0], [FULL, FULL, 1])
        self.check([0, 0, 0], "fill", 128, [2 ** 63, 0], [0, FULL])
        self.check([1, 2 ** 63, 0], "fill", 128, [2 ** 63, 0], [FULL, FULL - 1])
        self.check([63, 0, FULL - 1], "fill", 128, [0, 2], [FULL, FULL])

    def test_every_pair_over_few_rows(self):
        for n in (1, 2, 3, 4, 5):
            for a in range(2 ** n):
                for on in range(2 ** n):
                    self.compare(n, {row for row in range(n) if a >> row & 1},
                                 {row for row in range(n) if on >> row & 1})

    def test_every_pair_around_a_words_edge(self):
        for a in range(2 ** 4):
            for on in range(2 ** 5):
                self.compare(70, {62 + k for k in range(4) if a >> k & 1}, {61 + k for k in range(5) if on >> k & 1})

    def test_n_at_its_edges(self):
        for n in EDGES_OF_N + (5, 100, 200):
            for a in sets_over(n):
                for on in sets_over(n):
                    self.compare(n, a, on)
            for row in {row for row in (0, 1, 62, 63, 64, n // 2, n - 1) if 0 <= row < n}:
                self.compare(n, {row}, set(range(n)))

    def test_the_bits_from_n_on_may_be_anything(self):
        for n in UNEVEN_N:
            for a in sets_over(n)[:3]:
                for on in sets_over(n)[:3]:
                    for one in dirty(n, words_of(n, a)):
                        for other in dirty(n, words_of(n, on)):
                            self.check(expected(n, a, on), "fill", n, one, other)

    def test_one_list_as_both(self):
        a = words_of(70, {0, 5, 63, 64, 69})
        self.check([5] + a, "fill", 70, a, a)

    def test_n_refused(self):
        for n in REFUSED_N:
            self.check([-1], "fill", n, [], [])


if __name__ == "__main__":
    unittest.main()

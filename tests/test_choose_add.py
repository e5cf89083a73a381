"""Points 12 and 13: choose and add, and what the document says ahead of them of sets that are handed over."""

import unittest

from support import (EDGES_OF_N, HIGH, LOW, REFUSED_N, UNEVEN_N, Asking, dirty, numbers_over, sets_over, told,
                     words_of)


class Choose(Asking):
    def compare(self, n, a, words):
        x, y = numbers_over(n), [-row - 1 for row in range(n)]
        wanted = list(y)
        for row in a:
            wanted[row] = x[row]
        self.check([len(a)] + wanted, "choose", n, x, y, words)

    def test_written_answers(self):
        x, y = [1, 2, 3, LOW, HIGH], [-1, -2, -3, HIGH, LOW]
        self.check([0, -1, -2, -3, HIGH, LOW], "choose", 5, x, y, [0])
        self.check([5, 1, 2, 3, LOW, HIGH], "choose", 5, x, y, [0b11111])
        self.check([3, -1, 2, -3, LOW, HIGH], "choose", 5, x, y, [0b11010])
        self.check([0], "choose", 0, [], [], [])

    def test_n_at_its_edges(self):
        for n in EDGES_OF_N + (5, 100, 200):
            for a in sets_over(n):
                self.compare(n, a, words_of(n, a))

    def test_the_bits_from_n_on_may_be_anything(self):
        for n in UNEVEN_N:
            for a in sets_over(n):
                for one in dirty(n, words_of(n, a)):
                    self.compare(n, a, one)

    def test_one_list_as_both(self):
        x = [4, 5, 6]
        self.check([2, 4, 5, 6], "choose", 3, x, x, [0b101])

    def test_n_refused(self):
        for n in REFUSED_N:
            self.check([-1], "choose", n, [], [], [])


class Add(Asking):
    def compare(self, n, by, col, a, words):
        """By the bytes of the sums: the lower four are kept, as a number with a sign."""
        kept, over = list(col), set()
        for row in a:
            total = col[row] + by
            lower = total.to_bytes(8, "little", signed=True)[:4]
            kept[row] = int.from_bytes(lower, "little", signed=True)
            if not LOW <= total <= HIGH:
                over.add(row)
        self.check([len(over)] + kept + words_of(n, over), "add", n, by, col, words)

    def test_written_answers(self):
        self.check([0, 11, -20, 31, 0b000], "add", 3, 1, [10, -20, 30], [0b101])
        self.check([0, 10, -20, 30, 0b000], "add", 3, 1, [10, -20, 30], [0])
        self.check([0, 11, -19, 31, 0b000], "add", 3, 1, [10, -20, 30], [0b111])
        self.check([0], "add", 0, 1, [], [])

    def test_sums_that_go_past_an_edge(self):
        col = [HIGH, HIGH - 1, 0, -1, LOW + 1, LOW]
        self.check([1, LOW, HIGH, 1, 0, LOW + 2, LOW + 1, 0b000001], "add", 6, 1, col, [0b111111])
        self.check([1, HIGH - 1, HIGH - 2, -1, -2, LOW, HIGH, 0b100000], "add", 6, -1, col, [0b111111])
        self.check([0] + col + [0], "add", 6, 0, col, [0b111111])
        self.check([2, -2, -3, HIGH, HIGH - 1, 0, -1, 0b000011], "add", 6, HIGH, col, [0b111111])
        self.check([3, -1, -2, LOW, HIGH, 1, 0, 0b111000], "add", 6, LOW, col, [0b111111])

    def test_rows_that_are_not_in_a_are_neither_added_to_nor_over(self):
        col = [HIGH, HIGH, LOW, LOW]
        self.check([1, HIGH, LOW, LOW, LOW + 1, 0b0010], "add", 4, 1, col, [0b1010])
        self.check([0, HIGH, HIGH, LOW, LOW, 0], "add", 4, 1, col, [0])

    def test_n_at_its_edges(self):
        for n in EDGES_OF_N + (5, 100, 200):
            for by in (0, 1, -1, 2000000000, HIGH, LOW):
                for a in sets_over(n):
                    self.compare(n, by, numbers_over(n), a, words_of(n, a))

    def test_every_row_over(self):
        for n in EDGES_OF_N:
            every = set(range(n))
            wanted = [n] + [LOW] * n + words_of(n, every)
            self.check(wanted, "add", n, 1, [HIGH] * n, told(n, every)[1:])

    def test_the_bits_from_n_on_may_be_anything(self):
        for n in UNEVEN_N:
            for by in (1, HIGH, LOW):
                for a in sets_over(n):
                    for one in dirty(n, words_of(n, a)):
                        self.compare(n, by, numbers_over(n), a, one)

    def test_n_refused(self):
        for n in REFUSED_N:
            for by in (0, 1, -1, HIGH, LOW):
                self.check([-1], "add", n, by, [], [])


if __name__ == "__main__":
    unittest.main()

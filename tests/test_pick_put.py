"""Points 10 and 11: pick and put, and what the document says ahead of them of sets that are handed over."""

import unittest

from support import (EDGES_OF_N, HIGH, LOW, REFUSED_N, UNEVEN_N, Asking, dirty, numbers_over, sets_over,
                     words_of)


class Pick(Asking):
    def compare(self, n, col, a, words):
        self.check([len(a)] + [col[row] for row in sorted(a)], "pick", n, col, words)

    def test_written_answers(self):
        col = [10, -20, 30, LOW, HIGH]
        self.check([0], "pick", 5, col, [0])
        self.check([5, 10, -20, 30, LOW, HIGH], "pick", 5, col, [0b11111])
        self.check([3, -20, LOW, HIGH], "pick", 5, col, [0b11010])
        self.check([2, 7, 7], "pick", 3, [7, 8, 7], [0b101])
        self.check([0], "pick", 0, [], [])

    def test_rows_of_several_words(self):
        self.check([4, 0, 63, 64, 129], "pick", 130, list(range(130)), [2 ** 63 + 1, 1, 2])

    def test_n_at_its_edges(self):
        for n in EDGES_OF_N + (5, 100, 200):
            for a in sets_over(n):
                self.compare(n, numbers_over(n), a, words_of(n, a))

    def test_the_bits_from_n_on_may_be_anything(self):
        for n in UNEVEN_N:
            for a in sets_over(n):
                for one in dirty(n, words_of(n, a)):
                    self.compare(n, numbers_over(n), a, one)

    def test_n_refused(self):
        for n in REFUSED_N:
            self.check([-1], "pick", n, [], [])


class Put(Asking):
    def compare(self, n, col, a, words, given):
        """Told from given's side: its numbers go, one after another, to the rows of a."""
        places = {row: place for place, row in enumerate(sorted(a))}
        wanted = [given[places[row]] if row in places else col[row] for row in range(n)]
        self.check([len(a)] + wanted, "put", n, col, words, given)

    def test_written_answers(self):
        col, given = [10, -20, 30, LOW, HIGH], [1, 2, 3, 4, 5]
        self.check([0, 10, -20, 30, LOW, HIGH], "put", 5, col, [0], given)
        self.check([5, 1, 2, 3, 4, 5], "put", 5, col, [0b11111], given)
        self.check([3, 10, 1, 30, 2, 3], "put", 5, col, [0b11010], given)
        self.check([2, LOW, 0, HIGH], "put", 3, [0, 0, 0], [0b101], [LOW, HIGH, 7])
        self.check([0], "put", 0, [], [], [])

    def test_rows_of_several_words(self):
        given = list(range(1000, 1130))
        answer = self.ask("put", 130, [0] * 130, [2 ** 63 + 1, 1, 2], given)
        wanted = [4] + [0] * 130
        for place, row in enumerate((0, 63, 64, 129)):
            wanted[1 + row] = 1000 + place
        self.assertEqual(answer, wanted)

    def test_n_at_its_edges(self):
        for n in EDGES_OF_N + (5, 100, 200):
            for a in sets_over(n):
                self.compare(n, numbers_over(n), a, words_of(n, a), [5 - number for number in range(n)])

    def test_the_bits_from_n_on_may_be_anything(self):
        for n in UNEVEN_N:
            for a in sets_over(n):
                for one in dirty(n, words_of(n, a)):
                    self.compare(n, numbers_over(n), a, one, [5 - number for number in range(n)])

    def test_one_list_as_both_columns(self):
        col = [1, 2, 3, 4]
        self.check([2, 1, 1, 3, 2], "put", 4, col, [0b1010], col)
        self.assertEqual(col, [1, 2, 3, 4])

    def test_what_was_picked_is_put_back(self):
        for n in EDGES_OF_N:
            col = numbers_over(n)
            for a in sets_over(n):
                picked = self.ask("pick", n, col, words_of(n, a))[1:]
                given = picked + [0] * (n - len(picked))
                self.check([len(a)] + col, "put", n, col, words_of(n, a), given)

    def test_n_refused(self):
        for n in REFUSED_N:
            self.check([-1], "put", n, [], [], [])


if __name__ == "__main__":
    unittest.main()

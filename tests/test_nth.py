"""Point 8: nth, and what the document says ahead of it of sets that are handed over."""

import unittest

from support import EDGES_OF_N, HIGH, LOW, REFUSED_N, UNEVEN_N, Asking, dirty, sets_over, words_of

REFUSED_K = (-1, -2, LOW, HIGH)


class Nth(Asking):
    def test_written_answers(self):
        a = [0b101001]
        self.check([0], "nth", 8, 0, a)
        self.check([3], "nth", 8, 1, a)
        self.check([5], "nth", 8, 2, a)
        self.check([-2], "nth", 8, 3, a)
        self.check([-2], "nth", 8, -1, a)

    def test_rows_of_several_words(self):
        a = [2 ** 63, 0, 1, 2]
        for k, row in enumerate((63, 128, 193)):
            self.check([row], "nth", 200, k, a)
        self.check([-2], "nth", 200, 3, a)

    def test_every_place(self):
        for n in (1, 5, 63, 64, 65, 127, 128, 200):
            for a in sets_over(n):
                for k, row in enumerate(sorted(a)):
                    self.check([row], "nth", n, k, words_of(n, a))
                for k in (len(a), len(a) + 1, n + 1) + REFUSED_K:
                    self.check([-2], "nth", n, k, words_of(n, a))

    def test_n_at_its_edges(self):
        for n in EDGES_OF_N:
            for a in sets_over(n):
                rows = sorted(a)
                for k in {0, 1, 62, 63, 64, len(a) // 2, len(a) - 1, len(a), n - 1, n, n + 1} | set(REFUSED_K):
                    wanted = rows[k] if 0 <= k < len(rows) else -2
                    self.check([wanted], "nth", n, k, words_of(n, a))

    def test_no_rows(self):
        for k in (0, 1) + REFUSED_K:
            self.check([-2], "nth", 0, k, [])

    def test_the_bits_from_n_on_may_be_anything(self):
        for n in UNEVEN_N:
            for a in sets_over(n):
                rows = sorted(a)
                for one in dirty(n, words_of(n, a)):
                    self.check([rows[-1] if rows else -2], "nth", n, max(len(rows) - 1, 0), one)
                    for k in (len(rows), len(rows) + 1) + REFUSED_K:
                        self.check([-2], "nth", n, k, one)

    def test_n_is_refused_ahead_of_k(self):
        for n in REFUSED_N:
            for k in (0, 1) + REFUSED_K:
                self.check([-1], "nth", n, k, [])


if __name__ == "__main__":
    unittest.main()

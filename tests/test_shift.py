"""Point 4: shift, and what the document says ahead of it of sets that are handed over."""

import unittest

from support import EDGES_OF_N, FULL, HIGH, LOW, REFUSED_N, UNEVEN_N, Asking, dirty, sets_over, told, words_of


def expected(n, by, a):
    return told(n, {row + by for row in a if 0 <= row + by < n})


def ways(n):
    near = (0, 1, 2, 62, 63, 64, 65, 127, 128, 129, n - 1, n, n + 1)
    return sorted(set(near) | {-by for by in near} | {LOW, LOW + 1, HIGH - 1, HIGH})


class Shift(Asking):
    def test_written_answers(self):
        self.check([2, 0b0110], "shift", 4, 1, [0b0011])
        self.check([1, 0b1000], "shift", 4, 2, [0b0110])
        self.check([1, 0b0001], "shift", 4, -1, [0b0011])
        self.check([2, 0b0011], "shift", 4, 0, [0b0011])
        self.check([0, 0], "shift", 4, 4, [0b1111])
        self.check([0, 0], "shift", 4, -4, [0b1111])
        self.check([1, 0b1000], "shift", 4, 3, [0b1111])
        self.check([1, 0b0001], "shift", 4, -3, [0b1111])

    def test_written_answers_across_words(self):
        self.check([1, 0, 1, 0], "shift", 130, 1, [2 ** 63, 0, 0])
        self.check([1, 2 ** 63, 0, 0], "shift", 130, -1, [0, 1, 0])
        self.check([1, 0, 0, 2], "shift", 130, 129, [1, 0, 0])
        self.check([1, 1, 0, 0], "shift", 130, -129, [0, 0, 2])
        self.check([66, 0, FULL, 3], "shift", 130, 64, [FULL, FULL, 3])
        self.check([66, FULL, 3, 0], "shift", 130, -64, [FULL, FULL, 3])
        self.check([65, 0, FULL - 1, 3], "shift", 130, 65, [FULL, FULL, 3])
        self.check([67, 2 ** 63, FULL, 3], "shift", 130, 63, [FULL, FULL, 3])

    def test_n_at_its_edges(self):
        for n in EDGES_OF_N + (5, 100, 200):
            for by in ways(n):
                for a in sets_over(n):
                    self.check(expected(n, by, a), "shift", n, by, words_of(n, a))

    def test_every_way_over_some_words(self):
        a = {row for row in range(150) if row * row % 7 < 3}
        for by in range(-155, 156):
            self.check(expected(150, by, a), "shift", 150, by, words_of(150, a))

    def test_the_bits_from_n_on_may_be_anything(self):
        for n in UNEVEN_N:
            for by in ways(n):
                for a in sets_over(n)[:3]:
                    for one in dirty(n, words_of(n, a)):
                        self.check(expected(n, by, a), "shift", n, by, one)

    def test_n_refused(self):
        for n in REFUSED_N:
            for by in (0, 1, -1, 64, LOW, HIGH):
                self.check([-1], "shift", n, by, [])


if __name__ == "__main__":
    unittest.main()

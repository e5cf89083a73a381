"""Point 3: join, and what the document says ahead of it of sets that are handed over."""

import unittest

from support import EDGES_OF_N, FULL, HIGH, LOW, REFUSED_N, UNEVEN_N, Asking, dirty, sets_over, told, words_of

REFUSED_HOW = (-1, 7, LOW, HIGH)


def expected(n, how, a, b):
    every = set(range(n))
    return told(n, (a & b, a | b, a ^ b, every - (a ^ b), a - b, a | (every - b), every - a)[how])


class Join(Asking):
    def join(self, n, how, a, b):
        return self.ask("join", n, how, a, [] if how == 6 else b)

    def test_written_answers_for_each_how(self):
        a, b = [0b0011], [0b0101]
        wanted = ([1, 0b0001], [3, 0b0111], [2, 0b0110], [2, 0b1001], [1, 0b0010], [3, 0b1011], [2, 0b1100])
        for how in range(7):
            self.assertEqual(self.join(4, how, a, b), wanted[how], how)

    def test_written_answers_over_several_words(self):
        a, b = [FULL, 0, 1], [1, FULL, 1]
        self.assertEqual(self.join(130, 0, a, b), [2, 1, 0, 1])
        self.assertEqual(self.join(130, 1, a, b), [129, FULL, FULL, 1])
        self.assertEqual(self.join(130, 2, a, b), [127, FULL - 1, FULL, 0])
        self.assertEqual(self.join(130, 3, a, b), [3, 1, 0, 3])
        self.assertEqual(self.join(130, 4, a, b), [63, FULL - 1, 0, 0])
        self.assertEqual(self.join(130, 5, a, b), [66, FULL, 0, 3])
        self.assertEqual(self.join(130, 6, a, b), [65, 0, FULL, 2])

    def test_n_at_its_edges(self):
        for n in EDGES_OF_N + (5, 100, 200):
            for a in sets_over(n):
                for b in sets_over(n):
                    for how in range(7):
                        self.assertEqual(self.join(n, how, words_of(n, a), words_of(n, b)),
                                         expected(n, how, a, b), (n, how))

    def test_the_bits_from_n_on_may_be_anything(self):
        for n in UNEVEN_N:
            for a in sets_over(n)[:3]:
                for b in sets_over(n)[:3]:
                    for how in range(7):
                        for one in dirty(n, words_of(n, a)):
                            for other in dirty(n, words_of(n, b)):
                                self.assertEqual(self.join(n, how, one, other), expected(n, how, a, b), (n, how))

    def test_one_list_as_both(self):
        a = words_of(70, {0, 5, 63, 64, 69})
        for how, wanted in enumerate((5, 5, 0, 70, 0, 70)):
            self.assertEqual(self.join(70, how, a, a)[0], wanted)

    def test_n_refused(self):
        for n in REFUSED_N:
            for how in (0, 1, 2, 3, 4, 5, 6) + REFUSED_HOW:
                self.check([-1], "join", n, how, [], [])

    def test_how_refused(self):
        for how in REFUSED_HOW:
            for n in EDGES_OF_N:
                words = words_of(n, set(range(n)))
                self.check([-2], "join", n, how, words, words)


if __name__ == "__main__":
    unittest.main()

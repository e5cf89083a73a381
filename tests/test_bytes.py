"""Point 9: bytes_of and ofbytes, and what the document says ahead of it of sets that are handed over."""

import unittest

from support import EDGES_OF_N, FULL, REFUSED_N, UNEVEN_N, Asking, dirty, sets_over, told, words_of


class BytesOf(Asking):
    def compare(self, n, a, words):
        self.check([len(a)] + [255 if row in a else 0 for row in range(n)], "bytes_of", n, words)

    def test_written_answers(self):
        self.check([2, 255, 0, 255, 0], "bytes_of", 4, [0b0101])
        self.check([0, 0, 0, 0], "bytes_of", 3, [0])
        self.check([3, 255, 255, 255], "bytes_of", 3, [0b111])
        self.check([0], "bytes_of", 0, [])
        self.check([66] + [255] * 64 + [0, 255, 255], "bytes_of", 67, [FULL, 6])

    def test_n_at_its_edges(self):
        for n in EDGES_OF_N + (5, 100, 200):
            for a in sets_over(n):
                self.compare(n, a, words_of(n, a))

    def test_the_bits_from_n_on_may_be_anything(self):
        for n in UNEVEN_N:
            for a in sets_over(n):
                for one in dirty(n, words_of(n, a)):
                    self.compare(n, a, one)

    def test_n_refused(self):
        for n in REFUSED_N:
            self.check([-1], "bytes_of", n, [])


class OfBytes(Asking):
    def compare(self, given):
        wanted = told(len(given), {row for row, byte in enumerate(given) if byte & 128})
        self.check(wanted, "ofbytes", len(given), given)

    def test_written_answers(self):
        self.check([4, 0b1111000], "ofbytes", 7, [0, 1, 127, 128, 129, 254, 255])
        self.check([0], "ofbytes", 0, [])
        self.check([1, 0, 1], "ofbytes", 65, [127] * 64 + [128])
        self.check([64, FULL, 0], "ofbytes", 65, [128] * 64 + [127])

    def test_every_byte(self):
        self.compare(list(range(256)))
        for byte in range(256):
            self.check([1, 1] if byte > 127 else [0, 0], "ofbytes", 1, [byte])

    def test_n_at_its_edges(self):
        for n in EDGES_OF_N + (5, 100, 200):
            for byte in (0, 1, 127, 128, 129, 254, 255):
                self.compare([byte] * n)
            self.compare([row * 37 % 256 for row in range(n)])
            self.compare([row * row % 256 for row in range(n)])

    def test_back_and_forth(self):
        for n in EDGES_OF_N:
            for a in sets_over(n):
                given = self.ask("bytes_of", n, words_of(n, a))[1:]
                self.check(told(n, a), "ofbytes", n, given)

    def test_n_refused(self):
        for n in REFUSED_N:
            self.check([-1], "ofbytes", n, [])


if __name__ == "__main__":
    unittest.main()

"""Call 8, sums. The answers are worked out by hand from the document."""

import unittest

from gridwave.both import sums
from words import Numbers, PictureTests, sums_by_words


class Ordinary(unittest.TestCase):
    def test_wider_than_high(self):
        self.assertEqual(sums(3, 2, [1, 2, 3,
                                     4, 5, 6]), [0, 1, 3, 6,
                                                 5, 12, 21])
        self.assertEqual(sums(4, 2, [0, 7, 0, 1,
                                     2, 0, 0, 255]), [0, 0, 7, 7, 8,
                                                      2, 9, 9, 265])

    def test_higher_than_wide(self):
        self.assertEqual(sums(2, 3, [1, 2,
                                     3, 4,
                                     5, 6]), [0, 1, 3,
                                              4, 10,
                                              9, 21])

    def test_as_wide_as_high(self):
        self.assertEqual(sums(3, 3, [1, 0, 0,
                                     0, 10, 0,
                                     0, 0, 100]), [0, 1, 1, 1,
                                                   1, 11, 11,
                                                   1, 11, 111])

    def test_one_row(self):
        self.assertEqual(sums(4, 1, [5, 0, 255, 1]), [0, 5, 5, 260, 261])

    def test_one_column(self):
        self.assertEqual(sums(1, 4, [5, 0, 255, 1]), [0, 5, 5, 260, 261])

    def test_one_cell(self):
        for byte in (0, 1, 255):
            self.assertEqual(sums(1, 1, [byte]), [0, byte])

    def test_no_cells(self):
        for w, h in ((0, 0), (0, 1), (1, 0), (0, 64), (64, 0)):
            self.assertEqual(sums(w, h, []), [0])

    def test_the_greatest(self):
        out = sums(64, 64, [255] * 4096)
        self.assertEqual(out, [0] + [255 * (x + 1) * (y + 1) for y in range(64) for x in range(64)])
        self.assertEqual(out[4096], 1044480)


class Rectangles(unittest.TestCase):
    def check(self, w, h, picture):
        out = sums(w, h, picture)[1:]

        def corner(x, y):
            return out[y * w + x] if x >= 0 and y >= 0 else 0

        for top in range(h):
            for below in range(top, h):
                for left in range(w):
                    for right in range(left, w):
                        from_sums = corner(right, below) - corner(left - 1, below)
                        from_sums += corner(left - 1, top - 1) - corner(right, top - 1)
                        rows = [picture[y * w + left:y * w + right + 1] for y in range(top, below + 1)]
                        self.assertEqual(from_sums, sum(sum(row) for row in rows))

    def test_each(self):
        numbers = Numbers(21)
        for w, h in ((1, 1), (5, 1), (1, 5), (5, 3), (3, 5), (4, 4)):
            with self.subTest(w=w, h=h):
                self.check(w, h, [numbers.below(256) for _ in range(w * h)])


class Pictures(PictureTests, unittest.TestCase):
    def call(self, w, h, x):
        return sums(w, h, x)


class ByTheWords(unittest.TestCase):
    def test_many(self):
        numbers = Numbers(22)
        for turn in range(60):
            w, h = numbers.below(9), numbers.below(9)
            picture = numbers.picture(w, h)
            with self.subTest(w=w, h=h, picture=picture):
                self.assertEqual(sums(w, h, picture), sums_by_words(w, h, picture))


if __name__ == "__main__":
    unittest.main()

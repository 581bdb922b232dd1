"""Call 11, shape. The answers are worked out by hand from the document."""

import unittest

from gridwave.both import shape
from words import Numbers, PictureTests, shape_by_words

LEAST = 0
MOST = 1

WIDE = [5, 1, 7, 3,
        2, 9, 4, 8]

HIGH = [9, 1, 5,
        2, 8, 3,
        7, 4, 6,
        0, 5, 9]


class Ordinary(unittest.TestCase):
    def test_to_the_sides(self):
        self.assertEqual(shape(4, 2, LEAST, 1, 0, WIDE), [0, 1, 1, 1, 3,
                                                          2, 2, 4, 4])
        self.assertEqual(shape(4, 2, MOST, 1, 0, WIDE), [0, 5, 7, 7, 7,
                                                         9, 9, 9, 8])
        self.assertEqual(shape(3, 4, LEAST, 1, 0, HIGH), [0, 1, 1, 1,
                                                          2, 2, 3,
                                                          4, 4, 4,
                                                          0, 0, 5])

    def test_up_and_down(self):
        self.assertEqual(shape(4, 2, LEAST, 0, 1, WIDE), [0, 2, 1, 4, 3,
                                                          2, 1, 4, 3])
        self.assertEqual(shape(4, 2, MOST, 0, 1, WIDE), [0, 5, 9, 7, 8,
                                                         5, 9, 7, 8])
        self.assertEqual(shape(3, 4, LEAST, 0, 1, HIGH), [0, 2, 1, 3,
                                                          2, 1, 3,
                                                          0, 4, 3,
                                                          0, 4, 6])

    def test_both_ways(self):
        self.assertEqual(shape(4, 2, LEAST, 1, 1, WIDE), [0, 1, 1, 1, 3,
                                                          1, 1, 1, 3])
        self.assertEqual(shape(4, 2, MOST, 1, 1, WIDE), [0, 9, 9, 9, 8,
                                                         9, 9, 9, 8])
        self.assertEqual(shape(3, 4, MOST, 1, 1, HIGH), [0, 9, 9, 8,
                                                         9, 9, 8,
                                                         8, 9, 9,
                                                         7, 9, 9])

    def test_a_speck(self):
        picture = [0, 0, 0, 0, 0,
                   0, 0, 0, 0, 0,
                   0, 0, 8, 0, 0,
                   0, 0, 0, 0, 0,
                   0, 0, 0, 0, 0]
        self.assertEqual(shape(5, 5, MOST, 1, 0, picture), [0] + [0] * 10 + [0, 8, 8, 8, 0] + [0] * 10)
        self.assertEqual(shape(5, 5, MOST, 0, 1, picture), [0] + [0] * 5 + [0, 0, 8, 0, 0] * 3 + [0] * 5)
        self.assertEqual(shape(5, 5, MOST, 1, 2, picture), [0] + [0, 8, 8, 8, 0] * 5)
        self.assertEqual(shape(5, 5, MOST, 2, 1, picture), [0] + [0] * 5 + [8] * 15 + [0] * 5)
        self.assertEqual(shape(5, 5, LEAST, 1, 1, picture), [0] * 26)

    def test_corners_and_edges(self):
        # what lies beyond is left out: a 0 there would be the least, a 255 the most
        bright = [200, 255, 255,
                  255, 255, 255,
                  255, 255, 210]
        self.assertEqual(shape(3, 3, LEAST, 1, 1, bright), [0, 200, 200, 255,
                                                            200, 200, 210,
                                                            255, 210, 210])
        dark = [55, 0, 0,
                0, 0, 0,
                0, 0, 45]
        self.assertEqual(shape(3, 3, MOST, 1, 1, dark), [0, 55, 55, 0,
                                                         55, 55, 45,
                                                         0, 45, 45])

    def test_one_row(self):
        self.assertEqual(shape(5, 1, LEAST, 1, 9, [4, 6, 2, 8, 9]), [0, 4, 2, 2, 2, 8])
        self.assertEqual(shape(5, 1, MOST, 1, 9, [4, 6, 2, 8, 9]), [0, 6, 6, 8, 9, 9])
        self.assertEqual(shape(5, 1, MOST, 0, 9, [4, 6, 2, 8, 9]), [0, 4, 6, 2, 8, 9])

    def test_one_column(self):
        self.assertEqual(shape(1, 5, LEAST, 9, 1, [4, 6, 2, 8, 9]), [0, 4, 2, 2, 2, 8])
        self.assertEqual(shape(1, 5, MOST, 9, 1, [4, 6, 2, 8, 9]), [0, 6, 6, 8, 9, 9])
        self.assertEqual(shape(1, 5, MOST, 9, 0, [4, 6, 2, 8, 9]), [0, 4, 6, 2, 8, 9])

    def test_one_cell(self):
        for op in (LEAST, MOST):
            for byte in (0, 1, 255):
                for rx, ry in ((0, 0), (1, 0), (0, 1), (64, 64)):
                    self.assertEqual(shape(1, 1, op, rx, ry, [byte]), [0, byte])

    def test_no_cells(self):
        for w, h in ((0, 0), (0, 1), (1, 0), (0, 64), (64, 0)):
            for op in (LEAST, MOST):
                for rx, ry in ((0, 0), (1, 2), (64, 64)):
                    self.assertEqual(shape(w, h, op, rx, ry, []), [0])

    def test_radius_nought(self):
        for op in (LEAST, MOST):
            self.assertEqual(shape(4, 2, op, 0, 0, WIDE), [0] + WIDE)
            self.assertEqual(shape(3, 4, op, 0, 0, HIGH), [0] + HIGH)

    def test_above_the_sides(self):
        for r in (4, 5, 63, 64):
            self.assertEqual(shape(4, 2, LEAST, r, r, WIDE), [0] + [1] * 8)
            self.assertEqual(shape(4, 2, MOST, r, r, WIDE), [0] + [9] * 8)
            # the row alone, the column alone
            self.assertEqual(shape(4, 2, LEAST, r, 0, WIDE), [0] + [1] * 4 + [2] * 4)
            self.assertEqual(shape(4, 2, MOST, r, 0, WIDE), [0] + [7] * 4 + [9] * 4)
            self.assertEqual(shape(3, 4, LEAST, 0, r, HIGH), [0] + [0, 1, 3] * 4)
            self.assertEqual(shape(3, 4, MOST, 0, r, HIGH), [0] + [9, 8, 9] * 4)

    def test_the_greatest(self):
        # from the first cell the last of 64 is 63 away
        row = [0] * 63 + [255]
        self.assertEqual(shape(64, 1, MOST, 62, 0, row), [0, 0] + [255] * 63)
        self.assertEqual(shape(64, 1, MOST, 63, 0, row), [0] + [255] * 64)
        self.assertEqual(shape(64, 1, MOST, 64, 0, row), [0] + [255] * 64)
        self.assertEqual(shape(1, 64, MOST, 0, 62, row), [0, 0] + [255] * 63)
        self.assertEqual(shape(1, 64, MOST, 0, 63, row), [0] + [255] * 64)
        picture = [7] * 4095 + [3]
        self.assertEqual(shape(64, 64, LEAST, 64, 64, picture), [0] + [3] * 4096)
        self.assertEqual(shape(64, 64, LEAST, 64, 0, picture), [0] + [7] * 4032 + [3] * 64)
        self.assertEqual(shape(64, 64, LEAST, 0, 64, picture), [0] + ([7] * 63 + [3]) * 64)


class Promise(unittest.TestCase):
    def test_least_of_most_and_most_of_least(self):
        numbers = Numbers(27)
        for turn in range(100):
            w, h = 1 + numbers.below(9), 1 + numbers.below(9)
            rx, ry = numbers.below(5), numbers.below(5)
            picture = numbers.picture(w, h)
            closed = shape(w, h, LEAST, rx, ry, shape(w, h, MOST, rx, ry, picture)[1:])[1:]
            opened = shape(w, h, MOST, rx, ry, shape(w, h, LEAST, rx, ry, picture)[1:])[1:]
            with self.subTest(w=w, h=h, rx=rx, ry=ry, picture=picture):
                self.assertEqual([len(closed), len(opened)], [w * h, w * h])
                for low, byte, high in zip(opened, picture, closed):
                    self.assertLessEqual(low, byte)
                    self.assertLessEqual(byte, high)


class Refusals(unittest.TestCase):
    def test_op(self):
        self.assertEqual(shape(2, 1, 1, 1, 0, [5, 6]), [0, 6, 6])
        for op in (2, 3, 2 ** 64 - 1):
            self.assertEqual(shape(2, 1, op, 1, 0, [5, 6]), [-1])
            self.assertEqual(shape(0, 0, op, 0, 0, []), [-1])

    def test_radii(self):
        self.assertEqual(shape(2, 1, LEAST, 64, 0, [5, 6]), [0, 5, 5])
        self.assertEqual(shape(1, 2, LEAST, 0, 64, [5, 6]), [0, 5, 5])
        for op in (LEAST, MOST):
            for r in (65, 2 ** 64 - 1):
                self.assertEqual(shape(2, 1, op, r, 0, [5, 6]), [-1])
                self.assertEqual(shape(2, 1, op, 0, r, [5, 6]), [-1])
                self.assertEqual(shape(0, 0, op, r, 0, []), [-1])
                self.assertEqual(shape(0, 0, op, 0, r, []), [-1])


class PicturesOfLeast(PictureTests, unittest.TestCase):
    def call(self, w, h, x):
        return shape(w, h, LEAST, 2, 1, x)


class PicturesOfMost(PictureTests, unittest.TestCase):
    def call(self, w, h, x):
        return shape(w, h, MOST, 0, 0, x)


class ByTheWords(unittest.TestCase):
    def test_many(self):
        numbers = Numbers(28)
        for turn in range(200):
            w, h = numbers.below(9), numbers.below(9)
            op, rx, ry = numbers.below(2), numbers.below(6), numbers.below(6)
            picture = numbers.picture(w, h)
            with self.subTest(w=w, h=h, op=op, rx=rx, ry=ry, picture=picture):
                self.assertEqual(shape(w, h, op, rx, ry, picture), shape_by_words(w, h, op, rx, ry, picture))


if __name__ == "__main__":
    unittest.main()

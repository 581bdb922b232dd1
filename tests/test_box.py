"""Call 9, box. The answers are worked out by hand from the document."""

import unittest

from gridwave.both import box
from words import Numbers, PictureTests, box_by_words


class Ordinary(unittest.TestCase):
    def test_wider_than_high(self):
        # both rows are within 1 of each: of 10 20 40 50, of all, of 20 30 50 60: 30, 35, 40
        self.assertEqual(box(3, 2, 1, [10, 20, 30,
                                       40, 50, 60]), [0, 30, 35, 40,
                                                      30, 35, 40])

    def test_higher_than_wide(self):
        # both columns are within 1 of each: of 10 20 30 40, of all, of 30 40 50 60: 25, 35, 45
        self.assertEqual(box(2, 3, 1, [10, 20,
                                       30, 40,
                                       50, 60]), [0, 25, 25,
                                                  35, 35,
                                                  45, 45])

    def test_corners_and_edges(self):
        # 4 cells at a corner, 6 at an edge, 9 within: 36/4, 36/6, 36/9
        self.assertEqual(box(3, 3, 1, [36, 0, 0,
                                       0, 0, 0,
                                       0, 0, 0]), [0, 9, 6, 0,
                                                   6, 4, 0,
                                                   0, 0, 0])
        self.assertEqual(box(3, 3, 1, [0, 0, 0,
                                       0, 36, 0,
                                       0, 0, 0]), [0, 9, 6, 9,
                                                   6, 4, 6,
                                                   9, 6, 9])
        self.assertEqual(box(3, 3, 1, [0, 0, 0,
                                       0, 0, 0,
                                       0, 0, 36]), [0, 0, 0, 0,
                                                    0, 4, 6,
                                                    0, 6, 9])

    def test_radius_two(self):
        # how many: 3, 4, 5, 4, 3 to the sides, 2 up and down; the two 120s are within 2 of the middle one alone
        self.assertEqual(box(5, 2, 2, [120, 0, 0, 0, 120,
                                       0, 0, 0, 0, 0]), [0, 20, 15, 24, 15, 20,
                                                         20, 15, 24, 15, 20])

    def test_one_row(self):
        # of 10 20, 10 20 60, 20 60 0, 60 0: 15, 30, 26 2/3, 30
        self.assertEqual(box(4, 1, 1, [10, 20, 60, 0]), [0, 15, 30, 27, 30])

    def test_one_column(self):
        self.assertEqual(box(1, 4, 1, [10, 20, 60, 0]), [0, 15, 30, 27, 30])

    def test_one_cell(self):
        for byte in (0, 1, 254, 255):
            for r in (0, 1, 2, 64):
                self.assertEqual(box(1, 1, r, [byte]), [0, byte])

    def test_no_cells(self):
        for w, h in ((0, 0), (0, 1), (1, 0), (0, 64), (64, 0)):
            for r in (0, 1, 64):
                self.assertEqual(box(w, h, r, []), [0])

    def test_radius_above_both_sides(self):
        # all six everywhere: 21/6 is 3 1/2
        for r in (2, 3, 4, 63, 64):
            self.assertEqual(box(3, 2, r, [1, 2, 3, 4, 5, 6]), [0] + [4] * 6)
            self.assertEqual(box(2, 3, r, [1, 2, 3, 4, 5, 6]), [0] + [4] * 6)

    def test_radius_above_one_side(self):
        # 6 over 10 cells at the left end, over 12 up to 4 from it; at the right end it isn't within
        self.assertEqual(box(6, 2, 4, [6, 0, 0, 0, 0, 0,
                                       0, 0, 0, 0, 0, 0]), [0, 1, 1, 1, 1, 1, 0,
                                                            1, 1, 1, 1, 1, 0])


class Halves(unittest.TestCase):
    def test_up(self):
        # 1/2 and 3/2
        self.assertEqual(box(2, 1, 1, [0, 1]), [0, 1, 1])
        self.assertEqual(box(2, 1, 1, [1, 2]), [0, 2, 2])
        self.assertEqual(box(1, 2, 1, [2, 3]), [0, 3, 3])
        self.assertEqual(box(2, 1, 1, [254, 255]), [0, 255, 255])
        # 2/4, 6/4, 3/6 and 9/6
        self.assertEqual(box(2, 2, 1, [0, 1, 0, 1]), [0, 1, 1, 1, 1])
        self.assertEqual(box(2, 2, 1, [3, 1, 1, 1]), [0, 2, 2, 2, 2])
        self.assertEqual(box(3, 2, 2, [3, 0, 0, 0, 0, 0]), [0] + [1] * 6)
        self.assertEqual(box(3, 2, 2, [3, 0, 0, 0, 0, 6]), [0] + [2] * 6)

    def test_just_beside(self):
        # 1/4, 1/3 and 4/9 down; 3/4, 2/3 and 5/9 up
        self.assertEqual(box(2, 2, 1, [0, 0, 0, 1]), [0] + [0] * 4)
        self.assertEqual(box(2, 2, 1, [0, 1, 1, 1]), [0] + [1] * 4)
        self.assertEqual(box(3, 1, 2, [0, 1, 0]), [0] + [0] * 3)
        self.assertEqual(box(3, 1, 2, [2, 0, 0]), [0] + [1] * 3)
        self.assertEqual(box(3, 3, 2, [4] + [0] * 8), [0] + [0] * 9)
        self.assertEqual(box(3, 3, 2, [0] * 8 + [5]), [0] + [1] * 9)


class RadiusNought(unittest.TestCase):
    def test_the_picture(self):
        numbers = Numbers(23)
        for w, h in ((1, 1), (5, 3), (3, 5), (7, 1), (1, 7), (64, 64)):
            picture = [numbers.below(256) for _ in range(w * h)]
            self.assertEqual(box(w, h, 0, picture), [0] + picture)


class TheGreatest(unittest.TestCase):
    def test_white(self):
        for r in (0, 1, 31, 64):
            self.assertEqual(box(64, 64, r, [255] * 4096), [0] + [255] * 4096)

    def test_all_within(self):
        # half of the cells: 127 1/2
        for r in (63, 64):
            self.assertEqual(box(64, 64, r, [255, 0] * 2048), [0] + [128] * 4096)

    def test_just_not_all_within(self):
        picture = [255] * 8 + [0] * 4088
        # 8 255 = 2040: over 63 63 = 3969 and over 64 63 = 4032 it's above a half, over 64 64 = 4096 below
        self.assertEqual(box(64, 64, 62, picture)[1:4], [1, 1, 1])
        self.assertEqual(box(64, 64, 62, picture)[1 + 64:4 + 64], [1, 0, 0])
        self.assertEqual(box(64, 64, 63, picture), [0] * 4097)


class Refusals(unittest.TestCase):
    def test_radius(self):
        self.assertEqual(box(2, 1, 64, [1, 3]), [0, 2, 2])
        self.assertEqual(box(2, 1, 65, [1, 3]), [-1])
        self.assertEqual(box(0, 0, 65, []), [-1])
        self.assertEqual(box(2, 1, 2 ** 64 - 1, [1, 3]), [-1])


class Pictures(PictureTests, unittest.TestCase):
    def call(self, w, h, x):
        return box(w, h, 1, x)


class PicturesOfRadiusNought(PictureTests, unittest.TestCase):
    def call(self, w, h, x):
        return box(w, h, 0, x)


class ByTheWords(unittest.TestCase):
    def test_many(self):
        numbers = Numbers(24)
        for turn in range(200):
            w, h, r = numbers.below(9), numbers.below(9), numbers.below(10)
            picture = numbers.picture(w, h)
            with self.subTest(w=w, h=h, r=r, picture=picture):
                self.assertEqual(box(w, h, r, picture), box_by_words(w, h, r, picture))


if __name__ == "__main__":
    unittest.main()

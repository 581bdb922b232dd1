"""Call 13, edges. The answers are worked out by hand from the document."""

import unittest

from gridwave.both import edges
from words import Numbers, PictureTests, edges_by_words


class Ordinary(unittest.TestCase):
    def test_wider_than_high(self):
        # gx is 4 at both ends, where one of both columns stands beyond, and 8 between; gy is 12 everywhere
        self.assertEqual(edges(3, 2, [1, 2, 3,
                                      4, 5, 6]), [0, 16, 20, 16,
                                                  16, 20, 16])
        # the columns are 21, 10, 11, 27 at the first row and 23, 22, 17, 33 at the second; the rows are 1, 6, 3, 3 apart;
        # gx and gy: -11 and 9, -10 and 16, 17 and 15, 16 and 12; -1 and 9, -6 and 16, 11 and 15, 16 and 12
        self.assertEqual(edges(4, 2, [5, 1, 2, 6,
                                      6, 7, 5, 9]), [0, 20, 26, 32, 28,
                                                     10, 22, 26, 28])

    def test_higher_than_wide(self):
        # the same with x and y exchanged
        self.assertEqual(edges(2, 3, [1, 4,
                                      2, 5,
                                      3, 6]), [0, 16, 16,
                                               20, 20,
                                               16, 16])
        self.assertEqual(edges(2, 4, [5, 6,
                                      1, 7,
                                      2, 5,
                                      6, 9]), [0, 20, 10,
                                               26, 22,
                                               32, 26,
                                               28, 28])

    def test_one_row(self):
        # the row three times: four times 20 - 10, 60 - 10, 0 - 20, 0 - 60
        self.assertEqual(edges(4, 1, [10, 20, 60, 0]), [0, 40, 200, 80, 240])

    def test_one_column(self):
        self.assertEqual(edges(1, 4, [10, 20, 60, 0]), [0, 40, 200, 80, 240])

    def test_one_cell(self):
        for byte in (0, 1, 255):
            self.assertEqual(edges(1, 1, [byte]), [0, 0])

    def test_no_cells(self):
        for w, h in ((0, 0), (0, 1), (1, 0), (0, 64), (64, 0)):
            self.assertEqual(edges(w, h, []), [0])

    def test_all_the_same(self):
        for w, h in ((5, 3), (3, 5), (1, 4), (4, 1), (64, 64)):
            for byte in (0, 7, 255):
                self.assertEqual(edges(w, h, [byte] * (w * h)), [0] * (1 + w * h))


class Around(unittest.TestCase):
    def test_the_middle_of_nine(self):
        # a corner has it in one column and one row, once each; a side has it as the middle one, twice
        self.assertEqual(edges(3, 3, [0, 0, 0,
                                      0, 10, 0,
                                      0, 0, 0]), [0, 20, 20, 20,
                                                  20, 0, 20,
                                                  20, 20, 20])

    def test_at_a_corner(self):
        # at the corner itself it stands beyond too: 1 + 2 to the left and above; beside it 1 + 2 and 1;
        # in the middle once to the left and once above
        self.assertEqual(edges(3, 3, [10, 0, 0,
                                      0, 0, 0,
                                      0, 0, 0]), [0, 60, 40, 0,
                                                  40, 20, 0,
                                                  0, 0, 0])
        self.assertEqual(edges(3, 3, [0, 0, 10,
                                      0, 0, 0,
                                      0, 0, 0]), [0, 0, 40, 60,
                                                  0, 20, 40,
                                                  0, 0, 0])
        self.assertEqual(edges(3, 3, [0, 0, 0,
                                      0, 0, 0,
                                      10, 0, 0]), [0, 0, 0, 0,
                                                   40, 20, 0,
                                                   60, 40, 0])
        self.assertEqual(edges(3, 3, [0, 0, 0,
                                      0, 0, 0,
                                      0, 0, 10]), [0, 0, 0, 0,
                                                   0, 20, 40,
                                                   0, 40, 60])

    def test_at_an_edge(self):
        # at its own place it stands beyond above, 2 in gy alone; to its sides 1 + 2 in gx and 1 in gy
        self.assertEqual(edges(3, 3, [0, 10, 0,
                                      0, 0, 0,
                                      0, 0, 0]), [0, 40, 20, 40,
                                                  20, 20, 20,
                                                  0, 0, 0])
        self.assertEqual(edges(3, 3, [0, 0, 0,
                                      0, 0, 10,
                                      0, 0, 0]), [0, 0, 20, 40,
                                                  0, 20, 20,
                                                  0, 20, 40])

    def test_a_step(self):
        # beside the step four times 20, farther off nothing
        self.assertEqual(edges(4, 3, [10, 10, 30, 30] * 3), [0] + [0, 80, 80, 0] * 3)
        self.assertEqual(edges(4, 3, [30, 30, 10, 10] * 3), [0] + [0, 80, 80, 0] * 3)
        self.assertEqual(edges(3, 4, [10] * 6 + [30] * 6), [0] + [0] * 3 + [80] * 6 + [0] * 3)
        self.assertEqual(edges(3, 4, [30] * 6 + [10] * 6), [0] + [0] * 3 + [80] * 6 + [0] * 3)


class Signs(unittest.TestCase):
    def test_each(self):
        # at the cell itself gx and gy are of size 30, across from it 10; beside it 30 and 10
        self.assertEqual(edges(2, 2, [0, 0, 0, 10]), [0, 20, 40, 40, 60])
        self.assertEqual(edges(2, 2, [0, 0, 10, 0]), [0, 40, 20, 60, 40])
        self.assertEqual(edges(2, 2, [0, 10, 0, 0]), [0, 40, 60, 20, 40])
        self.assertEqual(edges(2, 2, [10, 0, 0, 0]), [0, 60, 40, 40, 20])

    def test_the_sizes_are_added(self):
        # in the middle gx is 3 + 2 5 + 9 - 1 - 2 4 - 7 = 6 and gy 7 + 2 8 + 9 - 1 - 2 2 - 3 = 24;
        # mirrored each by itself, one or both are below 0
        for rows in ([1, 2, 3, 4, 0, 5, 7, 8, 9], [3, 2, 1, 5, 0, 4, 9, 8, 7],
                     [7, 8, 9, 4, 0, 5, 1, 2, 3], [9, 8, 7, 5, 0, 4, 3, 2, 1]):
            self.assertEqual(edges(3, 3, rows)[5], 30)

    def test_the_middle_itself_counts_nothing(self):
        for byte in (0, 100, 255):
            self.assertEqual(edges(3, 3, [1, 2, 3, 4, byte, 5, 7, 8, 9])[5], 30)


class Held(unittest.TestCase):
    def test_just_below_and_above(self):
        # the sum of both sizes is always even: 254 is the last below 255, 256 the first above
        self.assertEqual(edges(2, 2, [0, 0, 0, 127]), [0, 254, 255, 255, 255])
        self.assertEqual(edges(2, 2, [0, 0, 0, 128]), [0, 255, 255, 255, 255])
        self.assertEqual(edges(2, 1, [0, 63]), [0, 252, 252])
        self.assertEqual(edges(2, 1, [64, 0]), [0, 255, 255])
        self.assertEqual(edges(1, 2, [0, 63]), [0, 252, 252])
        self.assertEqual(edges(1, 2, [64, 0]), [0, 255, 255])

    def test_the_greatest(self):
        self.assertEqual(edges(2, 1, [0, 255]), [0, 255, 255])
        self.assertEqual(edges(3, 3, [0, 0, 0, 0, 0, 255, 0, 255, 255])[5], 255)
        # neither is above 255 by itself: 130 and 130
        self.assertEqual(edges(3, 3, [0, 0, 0, 0, 0, 0, 0, 0, 130])[5], 255)
        self.assertEqual(edges(3, 3, [0, 0, 0, 0, 0, 0, 0, 0, 120])[5], 240)


class Pictures(PictureTests, unittest.TestCase):
    def call(self, w, h, x):
        return edges(w, h, x)


class ByTheWords(unittest.TestCase):
    def test_many(self):
        numbers = Numbers(30)
        for turn in range(200):
            w, h = numbers.below(9), numbers.below(9)
            picture = numbers.picture(w, h)
            with self.subTest(w=w, h=h, picture=picture):
                self.assertEqual(edges(w, h, picture), edges_by_words(w, h, picture))

    def test_the_greatest_sides(self):
        numbers = Numbers(31)
        for w, h in ((64, 64), (64, 2), (2, 64)):
            picture = [numbers.below(24) for _ in range(w * h)]
            self.assertEqual(edges(w, h, picture), edges_by_words(w, h, picture))


if __name__ == "__main__":
    unittest.main()

"""Call 12, middle. The answers are worked out by hand from the document."""

import unittest

from gridwave.both import middle
from words import Numbers, PictureTests, middle_by_words


class Ordinary(unittest.TestCase):
    def test_corners_and_edges(self):
        # by size, the nearest ones beyond: 1 1 2 2 7 9 9 9 9, 1 1 2 3 7 8 8 9 9, 1 1 3 3 7 8 8 8 8;
        # 1 2 2 4 6 6 7 9 9, 1 to 9, 1 3 3 4 5 5 7 8 8; 2 2 4 4 6 6 6 6 7, 2 3 4 4 5 5 6 6 7, 3 3 4 4 5 5 5 5 7
        self.assertEqual(middle(3, 3, [9, 1, 8,
                                       2, 7, 3,
                                       6, 4, 5]), [0, 7, 7, 7,
                                                   6, 5, 5,
                                                   6, 5, 5])

    def test_wider_than_high(self):
        # 1 1 2 2 5 5 5 5 9, 1 1 2 4 5 5 7 7 9, 1 1 3 3 4 7 7 8 9, 3 3 3 3 4 7 7 8 8;
        # 1 2 2 2 2 5 5 9 9, 1 2 2 4 4 5 7 9 9, 1 3 4 4 7 8 8 9 9, 3 3 4 4 7 8 8 8 8
        self.assertEqual(middle(4, 2, [5, 1, 7, 3,
                                       2, 9, 4, 8]), [0, 5, 5, 4, 4,
                                                      2, 4, 7, 7])

    def test_higher_than_wide(self):
        # the same with x and y exchanged
        self.assertEqual(middle(2, 4, [5, 2,
                                       1, 9,
                                       7, 4,
                                       3, 8]), [0, 5, 2,
                                                5, 4,
                                                4, 7,
                                                4, 7])

    def test_two_by_two(self):
        # 1 1 1 1 2 2 3 3 4, 1 1 2 2 2 2 3 4 4; 1 1 2 3 3 3 3 4 4, 1 2 2 3 3 4 4 4 4
        self.assertEqual(middle(2, 2, [1, 2, 3, 4]), [0, 2, 2, 3, 3])

    def test_one_row(self):
        # the row three times: of 1 1 9, of 1 9 2, of 9 2 2
        self.assertEqual(middle(3, 1, [1, 9, 2]), [0, 1, 2, 2])
        self.assertEqual(middle(5, 1, [200, 0, 255, 100, 101]), [0, 200, 200, 100, 101, 101])

    def test_one_column(self):
        self.assertEqual(middle(1, 3, [1, 9, 2]), [0, 1, 2, 2])
        self.assertEqual(middle(1, 5, [200, 0, 255, 100, 101]), [0, 200, 200, 100, 101, 101])

    def test_one_cell(self):
        for byte in (0, 1, 254, 255):
            self.assertEqual(middle(1, 1, [byte]), [0, byte])

    def test_no_cells(self):
        for w, h in ((0, 0), (0, 1), (1, 0), (0, 64), (64, 0)):
            self.assertEqual(middle(w, h, []), [0])


class Same(unittest.TestCase):
    def test_all(self):
        for w, h in ((5, 3), (3, 5), (1, 4), (4, 1), (64, 64)):
            for byte in (0, 7, 255):
                self.assertEqual(middle(w, h, [byte] * (w * h)), [0] + [byte] * (w * h))

    def test_a_speck_is_gone(self):
        # of nine it is one; at the edge, where it stands beyond too, two; at a corner four
        for place in range(20):
            picture = [6] * 20
            picture[place] = 200
            self.assertEqual(middle(5, 4, picture), [0] + [6] * 20)
            picture[place] = 0
            self.assertEqual(middle(5, 4, picture), [0] + [6] * 20)

    def test_two_halves_stay(self):
        # six of nine at the seam
        self.assertEqual(middle(4, 3, [0, 0, 255, 255] * 3), [0] + [0, 0, 255, 255] * 3)
        self.assertEqual(middle(3, 4, [0] * 6 + [255] * 6), [0] + [0] * 6 + [255] * 6)

    def test_four_and_five_of_nine(self):
        # at the middle the fifth by size: of four 9s and five 1s the 1, of five 9s and four 1s the 9
        self.assertEqual(middle(3, 3, [9, 9, 9, 9, 1, 1, 1, 1, 1])[5], 1)
        self.assertEqual(middle(3, 3, [9, 9, 9, 9, 9, 1, 1, 1, 1])[5], 9)
        self.assertEqual(middle(3, 3, [1, 9, 1, 9, 9, 9, 1, 9, 1])[5], 9)
        self.assertEqual(middle(3, 3, [9, 1, 9, 1, 1, 1, 9, 1, 9])[5], 1)


class Pictures(PictureTests, unittest.TestCase):
    def call(self, w, h, x):
        return middle(w, h, x)


class ByTheWords(unittest.TestCase):
    def test_many(self):
        numbers = Numbers(29)
        for turn in range(200):
            w, h = numbers.below(9), numbers.below(9)
            picture = numbers.picture(w, h)
            with self.subTest(w=w, h=h, picture=picture):
                self.assertEqual(middle(w, h, picture), middle_by_words(w, h, picture))


if __name__ == "__main__":
    unittest.main()

"""Call 14, scale. The answers are worked out by hand from the document."""

import unittest

from gridwave.both import scale
from words import Numbers, PictureTests, scale_by_words


class SameSize(unittest.TestCase):
    def test_stays(self):
        numbers = Numbers(40)
        for w, h in ((1, 1), (5, 3), (3, 5), (7, 1), (1, 7), (64, 64)):
            picture = [numbers.below(256) for _ in range(w * h)]
            self.assertEqual(scale(w, h, w, h, picture), [0] + picture)

    def test_one_side_stays(self):
        # the same rows, the same columns
        self.assertEqual(scale(3, 1, 3, 4, [1, 9, 4]), [0] + [1, 9, 4] * 4)
        self.assertEqual(scale(1, 3, 2, 3, [1, 9, 4]), [0, 1, 1, 9, 9, 4, 4])


class OneRow(unittest.TestCase):
    def both(self, row, answer):
        """The row, and the same as a column."""
        self.assertEqual(scale(len(row), 1, len(answer), 1, row), [0] + answer)
        self.assertEqual(scale(1, len(row), 1, len(answer), row), [0] + answer)

    def test_greater(self):
        # 2 to 3: at -1/6, 1/2, 7/6
        self.both([10, 30], [10, 20, 30])
        # 2 to 4: at -1/4, 1/4, 3/4, 5/4
        self.both([0, 100], [0, 25, 75, 100])
        self.both([100, 0], [100, 75, 25, 0])
        # 2 to 8: at -6/16, -2/16, 2/16, 6/16, 10/16, 14/16, 18/16, 22/16
        self.both([0, 16], [0, 0, 2, 6, 10, 14, 16, 16])
        # 3 to 4: at -1/8, 5/8, 11/8, 17/8
        self.both([0, 8, 16], [0, 5, 11, 16])
        self.both([0, 8, 0], [0, 5, 5, 0])
        # 3 to 6: at -1/4, 1/4, 3/4, 5/4, 7/4, 9/4
        self.both([0, 40, 120], [0, 10, 30, 60, 100, 120])

    def test_smaller(self):
        # 3 to 2: at 1/4, 7/4
        self.both([0, 100, 200], [25, 175])
        # 4 to 2: at 1/2, 5/2
        self.both([0, 10, 20, 40], [5, 30])
        # 5 to 3: at 1/3, 2, 11/3
        self.both([0, 3, 6, 9, 12], [1, 6, 11])
        # 6 to 2: at 1, 4
        self.both([1, 2, 3, 4, 5, 6], [2, 5])
        # 8 to 2: at 3/2, 11/2
        self.both([0, 10, 20, 30, 40, 50, 60, 80], [15, 55])

    def test_to_one_cell(self):
        # 2 to 1: at 1/2; 3 to 1: at 1; 4 to 1: at 3/2; 5 to 1: at 2
        self.both([10, 20], [15])
        self.both([10, 60, 30], [60])
        self.both([0, 10, 30, 200], [20])
        self.both([1, 2, 77, 4, 5], [77])

    def test_of_one_cell(self):
        for count in (1, 2, 3, 64):
            self.both([77], [77] * count)


class BothWays(unittest.TestCase):
    def test_greater(self):
        # each way at 0, 1/4, 3/4, 1
        self.assertEqual(scale(2, 2, 4, 4, [0, 0,
                                            0, 16]), [0, 0, 0, 0, 0,
                                                      0, 1, 3, 4,
                                                      0, 3, 9, 12,
                                                      0, 4, 12, 16])
        self.assertEqual(scale(2, 2, 4, 4, [0, 16,
                                            32, 48]), [0, 0, 4, 12, 16,
                                                       8, 12, 20, 24,
                                                       24, 28, 36, 40,
                                                       32, 36, 44, 48])

    def test_one_way(self):
        self.assertEqual(scale(2, 2, 4, 2, [0, 16,
                                            32, 48]), [0, 0, 4, 12, 16,
                                                       32, 36, 44, 48])
        self.assertEqual(scale(2, 2, 2, 4, [0, 16,
                                            32, 48]), [0, 0, 16,
                                                       8, 24,
                                                       24, 40,
                                                       32, 48])

    def test_smaller(self):
        # each way at 1/2, 5/2: the means of four
        self.assertEqual(scale(4, 4, 2, 2, [0, 4, 1, 1,
                                            8, 8, 1, 1,
                                            9, 9, 100, 200,
                                            9, 9, 100, 200]), [0, 5, 1,
                                                               9, 150])
        # to the sides at 1 and 4, up and down at 1
        self.assertEqual(scale(6, 3, 2, 1, [0, 0, 0, 0, 0, 0,
                                            0, 7, 0, 0, 9, 0,
                                            0, 0, 0, 0, 0, 0]), [0, 7, 9])

    def test_smaller_and_greater(self):
        # to the sides at 1/2, 5/2; up and down at 0, 1/4, 3/4, 1
        self.assertEqual(scale(4, 2, 2, 4, [0, 2, 4, 8,
                                            8, 10, 12, 16]), [0, 1, 6,
                                                              3, 8,
                                                              7, 12,
                                                              9, 14])
        # the same with x and y exchanged
        self.assertEqual(scale(2, 4, 4, 2, [0, 8,
                                            2, 10,
                                            4, 12,
                                            8, 16]), [0, 1, 3, 7, 9,
                                                      6, 8, 12, 14])

    def test_thirds_and_quarters(self):
        # to the sides at 1/4, 7/4; up and down at 0, 1/2, 1
        self.assertEqual(scale(3, 2, 2, 3, [0, 8, 16,
                                            32, 40, 48]), [0, 2, 14,
                                                           18, 30,
                                                           34, 46])

    def test_to_one_cell(self):
        self.assertEqual(scale(2, 2, 1, 1, [10, 20, 30, 60]), [0, 30])
        self.assertEqual(scale(3, 3, 1, 1, [1, 2, 3, 4, 99, 6, 7, 8, 9]), [0, 99])
        # at (2, 3/2)
        self.assertEqual(scale(5, 4, 1, 1, [0] * 7 + [10] + [0] * 4 + [20] + [0] * 7), [0, 15])
        # at (63/2, 63/2): the four in the middle
        picture = [0] * 4096
        for place, byte in ((31 * 64 + 31, 40), (31 * 64 + 32, 80), (32 * 64 + 31, 120), (32 * 64 + 32, 240)):
            picture[place] = byte
        self.assertEqual(scale(64, 64, 1, 1, picture), [0, 120])

    def test_of_one_cell(self):
        self.assertEqual(scale(1, 1, 3, 2, [7]), [0] + [7] * 6)
        self.assertEqual(scale(1, 1, 64, 64, [255]), [0] + [255] * 4096)

    def test_all_the_same(self):
        for byte in (0, 1, 254, 255):
            self.assertEqual(scale(5, 3, 7, 11, [byte] * 15), [0] + [byte] * 77)
            self.assertEqual(scale(7, 11, 5, 3, [byte] * 77), [0] + [byte] * 15)
            self.assertEqual(scale(63, 61, 64, 59, [byte] * 3843), [0] + [byte] * 3776)


class Held(unittest.TestCase):
    def test_at_both_ends(self):
        # 2 to 64: at (4 i - 62) / 128, below 0 up to i 15, from 1 on at i 48
        answer = scale(2, 1, 64, 1, [64, 192])[1:]
        self.assertEqual(answer[:16], [64] * 16)
        self.assertEqual(answer[48:], [192] * 16)
        # at 2/128 and 126/128: 64 + 2 and 64 + 126
        self.assertEqual([answer[16], answer[47]], [66, 190])
        answer = scale(1, 2, 1, 64, [192, 64])[1:]
        self.assertEqual(answer[:16] + answer[48:], [192] * 16 + [64] * 16)
        self.assertEqual([answer[16], answer[47]], [190, 66])

    def test_corners(self):
        answer = scale(2, 2, 8, 8, [10, 20, 30, 40])[1:]
        rows = [answer[8 * b:8 * b + 8] for b in range(8)]
        for row in rows[:2]:
            self.assertEqual([row[:2], row[6:]], [[10, 10], [20, 20]])
        for row in rows[6:]:
            self.assertEqual([row[:2], row[6:]], [[30, 30], [40, 40]])


class Halves(unittest.TestCase):
    def test_up(self):
        self.assertEqual(scale(2, 1, 1, 1, [0, 1]), [0, 1])
        self.assertEqual(scale(2, 1, 1, 1, [2, 1]), [0, 2])
        self.assertEqual(scale(1, 2, 1, 1, [2, 3]), [0, 3])
        self.assertEqual(scale(1, 2, 1, 1, [255, 254]), [0, 255])
        self.assertEqual(scale(2, 1, 3, 1, [0, 5]), [0, 0, 3, 5])
        # at 5/8 and 11/8: 5/2, then 4 less 3/2, which is 5/2
        self.assertEqual(scale(3, 1, 4, 1, [0, 4, 0]), [0, 0, 3, 3, 0])

    def test_just_beside(self):
        # at 5/8: 35/8 is 4 3/8, 5/8, 65/8 is 8 1/8, 45/8 is 5 5/8; at 11/8 likewise from the right
        self.assertEqual(scale(3, 1, 4, 1, [0, 7, 0]), [0, 0, 4, 4, 0])
        self.assertEqual(scale(3, 1, 4, 1, [0, 1, 0]), [0, 0, 1, 1, 0])
        self.assertEqual(scale(3, 1, 4, 1, [0, 13, 0]), [0, 0, 8, 8, 0])
        self.assertEqual(scale(3, 1, 4, 1, [0, 9, 0]), [0, 0, 6, 6, 0])
        # 1/3 and 2/3
        self.assertEqual(scale(5, 1, 3, 1, [0, 1, 0, 0, 1]), [0, 0, 0, 1])

    def test_a_hundred_and_twenty_eighth_beside(self):
        # 63 to 64: place 1 is at 125/128, place 2 at 251/128, so 5/128 of the second one is there
        for byte, first, second in ((107, 104, 4), (64, 63, 3), (21, 21, 1)):
            # 107 125 = 104 128 + 63; 64 125 = 62 128 + 64; 21 125 = 20 128 + 65
            row = [0, byte] + [0] * 61
            self.assertEqual(scale(63, 1, 64, 1, row), [0, 0, first, second] + [0] * 61)
            self.assertEqual(scale(1, 63, 1, 64, row), [0, 0, first, second] + [0] * 61)

    def test_not_rounded_in_between(self):
        # 1/4: by rows first or by columns first a half would go up twice
        for place in range(4):
            picture = [0] * 4
            picture[place] = 1
            self.assertEqual(scale(2, 2, 1, 1, picture), [0, 0])
        # 2/4, 3/4, 5/4, 6/4, 7/4: rounded down in between they would be less
        self.assertEqual(scale(2, 2, 1, 1, [0, 1, 0, 1]), [0, 1])
        self.assertEqual(scale(2, 2, 1, 1, [0, 0, 1, 1]), [0, 1])
        self.assertEqual(scale(2, 2, 1, 1, [1, 0, 0, 1]), [0, 1])
        self.assertEqual(scale(2, 2, 1, 1, [1, 1, 1, 0]), [0, 1])
        self.assertEqual(scale(2, 2, 1, 1, [1, 1, 1, 2]), [0, 1])
        self.assertEqual(scale(2, 2, 1, 1, [1, 2, 1, 2]), [0, 2])
        self.assertEqual(scale(2, 2, 1, 1, [2, 2, 2, 1]), [0, 2])
        # each way at 1/4 and 3/4 between: 1/16, 3/16 and 9/16 of the byte, with 8 and 7: 8/16 and 7/16, 72/16 and 63/16
        self.assertEqual(scale(2, 2, 4, 4, [0, 0, 0, 8]), [0, 0, 0, 0, 0,
                                                           0, 1, 2, 2,
                                                           0, 2, 5, 6,
                                                           0, 2, 6, 8])
        self.assertEqual(scale(2, 2, 4, 4, [0, 0, 0, 7]), [0, 0, 0, 0, 0,
                                                           0, 0, 1, 2,
                                                           0, 1, 4, 5,
                                                           0, 2, 5, 7])


class NoCells(unittest.TestCase):
    def test_none_of_none(self):
        for w, h in ((0, 0), (0, 5), (5, 0), (0, 64), (64, 0)):
            for v, u in ((0, 0), (0, 3), (3, 0), (0, 64), (64, 0)):
                self.assertEqual(scale(w, h, v, u, []), [0])

    def test_none_of_some(self):
        for w, h in ((1, 1), (5, 2), (64, 64)):
            for v, u in ((0, 0), (0, 3), (3, 0), (0, 1), (1, 0), (64, 0), (0, 64)):
                self.assertEqual(scale(w, h, v, u, [9] * (w * h)), [-1])

    def test_some_of_none(self):
        for w, h in ((0, 0), (0, 3), (3, 0), (0, 1), (1, 0), (64, 0), (0, 64)):
            for v, u in ((1, 1), (5, 2), (64, 64)):
                self.assertEqual(scale(w, h, v, u, []), [-1])


class NewSides(unittest.TestCase):
    def test_at_the_bound_and_beyond(self):
        picture = [1, 2, 3, 4]
        for v, u in ((64, 1), (1, 64), (64, 64)):
            self.assertEqual(len(scale(2, 2, v, u, picture)), 1 + v * u)
        for v, u in ((65, 1), (1, 65), (65, 64), (64, 65), (65, 65), (2 ** 64 - 1, 1), (1, 2 ** 64 - 1)):
            self.assertEqual(scale(2, 2, v, u, picture), [-1])
        self.assertEqual(picture, [1, 2, 3, 4])

    def test_beyond_where_there_are_no_cells(self):
        great = 2 ** 64 - 1
        for v, u in ((65, 0), (0, 65), (great, 0), (0, great), (great, great)):
            self.assertEqual(scale(0, 0, v, u, []), [-1])
            self.assertEqual(scale(v, u, 0, 0, []), [-1])
            self.assertEqual(scale(v, u, v, u, []), [-1])


class PicturesToOneCell(PictureTests, unittest.TestCase):
    def length(self, w, h):
        return 1 if w * h == 0 else 2

    def call(self, w, h, x):
        return scale(w, h, 0, 0, x) if w * h == 0 else scale(w, h, 1, 1, x)


class PicturesToOther(PictureTests, unittest.TestCase):
    def length(self, w, h):
        return 1 if w * h == 0 else 36

    def call(self, w, h, x):
        return scale(w, h, 5, 0, x) if w * h == 0 else scale(w, h, 5, 7, x)


class ByTheWords(unittest.TestCase):
    def test_many(self):
        numbers = Numbers(41)
        for turn in range(300):
            w, h, v, u = (1 + numbers.below(8) for _ in range(4))
            picture = numbers.picture(w, h)
            with self.subTest(w=w, h=h, v=v, u=u, picture=picture):
                self.assertEqual(scale(w, h, v, u, picture), scale_by_words(w, h, v, u, picture))

    def test_the_greatest_sides(self):
        numbers = Numbers(42)
        for w, h, v, u in ((64, 3, 63, 2), (3, 64, 5, 61), (47, 2, 64, 3), (2, 13, 3, 64), (64, 63, 9, 8), (7, 6, 64, 31)):
            picture = numbers.picture(w, h)
            with self.subTest(w=w, h=h, v=v, u=u):
                self.assertEqual(scale(w, h, v, u, picture), scale_by_words(w, h, v, u, picture))


if __name__ == "__main__":
    unittest.main()

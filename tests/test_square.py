"""Call 10, square. The answers are worked out by hand from the document."""

import unittest

from gridwave.both import square
from words import Numbers, PictureTests, square_by_words


def alone(m, a, b, factor=1):
    """A square of m rows with one factor at column a of row b, all others 0."""
    k = [0] * (m * m)
    k[b * m + a] = factor
    return k


WIDE = [1, 2, 3,
        4, 5, 6]


class Ordinary(unittest.TestCase):
    def test_one_number(self):
        self.assertEqual(square(4, 1, 1, 0, 0, [2], [0, 1, 2, 100]), [0, 0, 2, 4, 200])
        self.assertEqual(square(3, 2, 1, 0, 0, [1], WIDE), [0] + WIDE)
        self.assertEqual(square(2, 3, 1, 0, 0, [0], WIDE), [0] * 7)

    def test_sharpened(self):
        # within 5 20 - 4 10; at the sides 5 10 - 10 - 10 - 10 - 20, at the corners 5 10 - 4 10
        k = [0, -1, 0,
             -1, 5, -1,
             0, -1, 0]
        self.assertEqual(square(3, 3, 3, 0, 0, k, [10, 10, 10,
                                                   10, 20, 10,
                                                   10, 10, 10]), [0, 10, 0, 10,
                                                                  0, 60, 0,
                                                                  10, 0, 10])

    def test_blurred(self):
        # 16, 32 and 64, each plus 8, over 16: 1 1/2, 2 1/2, 4 1/2
        k = [1, 2, 1,
             2, 4, 2,
             1, 2, 1]
        self.assertEqual(square(3, 3, 3, 4, 0, k, [0, 0, 0,
                                                   0, 16, 0,
                                                   0, 0, 0]), [0, 1, 2, 1,
                                                               2, 4, 2,
                                                               1, 2, 1])
        # all 16 shares fall on the same byte, at the edges too
        for w, h in ((5, 3), (3, 5), (1, 1), (4, 1), (1, 4)):
            self.assertEqual(square(w, h, 3, 4, 0, k, [100] * (w * h)), [0] + [100] * (w * h))

    def test_one_row(self):
        # 1 + 2 1 + 4 2, 1 + 2 2 + 4 3, 2 + 2 3 + 4 3: the nearest ones stand beyond
        self.assertEqual(square(3, 1, 3, 0, 0, [0, 0, 0, 1, 2, 4, 0, 0, 0], [1, 2, 3]), [0, 11, 17, 20])
        # the rows above and below are the row itself
        self.assertEqual(square(3, 1, 3, 0, 0, [1, 0, 0, 0, 2, 0, 0, 0, 4], [1, 2, 3]), [0, 11, 17, 20])

    def test_one_column(self):
        self.assertEqual(square(1, 3, 3, 0, 0, [0, 1, 0, 0, 2, 0, 0, 4, 0], [1, 2, 3]), [0, 11, 17, 20])
        self.assertEqual(square(1, 3, 3, 0, 0, [0, 0, 1, 0, 2, 0, 4, 0, 0], [1, 2, 3]), [0, 11, 17, 20])

    def test_one_cell(self):
        self.assertEqual(square(1, 1, 3, 0, 0, [1, 2, 3, 4, 5, 6, 7, 8, 9], [3]), [0, 135])
        self.assertEqual(square(1, 1, 15, 0, 0, [1] * 225, [1]), [0, 225])

    def test_no_cells(self):
        for w, h in ((0, 0), (0, 1), (1, 0), (0, 64), (64, 0)):
            for m in (1, 3, 15):
                self.assertEqual(square(w, h, m, 1, 7, [1] * (m * m), []), [0])


class Places(unittest.TestCase):
    def test_each_of_nine(self):
        told = {(0, 0): [1, 1, 2, 1, 1, 2], (1, 0): [1, 2, 3, 1, 2, 3], (2, 0): [2, 3, 3, 2, 3, 3],
                (0, 1): [1, 1, 2, 4, 4, 5], (1, 1): [1, 2, 3, 4, 5, 6], (2, 1): [2, 3, 3, 5, 6, 6],
                (0, 2): [4, 4, 5, 4, 4, 5], (1, 2): [4, 5, 6, 4, 5, 6], (2, 2): [5, 6, 6, 5, 6, 6]}
        for a, b in told:
            with self.subTest(a=a, b=b):
                self.assertEqual(square(3, 2, 3, 0, 0, alone(3, a, b), WIDE), [0] + told[a, b])

    def test_higher_than_wide(self):
        high = [1, 2,
                3, 4,
                5, 6]
        # to the left; above; to the right and below
        self.assertEqual(square(2, 3, 3, 0, 0, alone(3, 0, 1), high), [0, 1, 1, 3, 3, 5, 5])
        self.assertEqual(square(2, 3, 3, 0, 0, alone(3, 1, 0), high), [0, 1, 2, 1, 2, 3, 4])
        self.assertEqual(square(2, 3, 3, 0, 0, alone(3, 2, 2), high), [0, 4, 4, 6, 6, 6, 6])

    def test_five(self):
        picture = [1, 2, 3, 4,
                   5, 6, 7, 8,
                   9, 10, 11, 12]
        # two to the left, two below; two to the right, one above; one to the left; two above
        self.assertEqual(square(4, 3, 5, 0, 0, alone(5, 0, 4), picture), [0] + [9, 9, 9, 10] * 3)
        self.assertEqual(square(4, 3, 5, 0, 0, alone(5, 4, 1), picture), [0] + [3, 4, 4, 4] * 2 + [7, 8, 8, 8])
        self.assertEqual(square(4, 3, 5, 0, 0, alone(5, 1, 2), picture), [0, 1, 1, 2, 3, 5, 5, 6, 7, 9, 9, 10, 11])
        self.assertEqual(square(4, 3, 5, 0, 0, alone(5, 2, 0), picture), [0] + [1, 2, 3, 4] * 3)

    def test_fifteen(self):
        row = list(range(16))
        before = [0] * 7 + list(range(9))
        behind = list(range(7, 16)) + [15] * 7
        self.assertEqual(square(16, 1, 15, 0, 0, alone(15, 0, 7), row), [0] + before)
        self.assertEqual(square(16, 1, 15, 0, 0, alone(15, 14, 7), row), [0] + behind)
        self.assertEqual(square(1, 16, 15, 0, 0, alone(15, 7, 0), row), [0] + before)
        self.assertEqual(square(1, 16, 15, 0, 0, alone(15, 7, 14), row), [0] + behind)

    def test_greater_than_the_picture(self):
        # seven to the left and above is the first cell everywhere, seven to the right and below the last
        self.assertEqual(square(3, 2, 15, 0, 0, alone(15, 0, 0), WIDE), [0] + [1] * 6)
        self.assertEqual(square(3, 2, 15, 0, 0, alone(15, 14, 14), WIDE), [0] + [6] * 6)
        self.assertEqual(square(3, 2, 15, 0, 0, alone(15, 14, 0), WIDE), [0] + [3] * 6)
        self.assertEqual(square(3, 2, 15, 0, 0, alone(15, 0, 14), WIDE), [0] + [4] * 6)
        self.assertEqual(square(3, 2, 15, 0, 0, alone(15, 7, 7), WIDE), [0] + WIDE)


class Shifts(unittest.TestCase):
    def check(self, shift, add, factor, bytes_, out):
        self.assertEqual(square(len(bytes_), 1, 1, shift, add, [factor], bytes_), [0] + out)

    def test_above_nought(self):
        # 0, 3, 6, 9 and 1 each, by 2
        self.check(1, 0, 3, [0, 1, 2, 3], [0, 2, 3, 5])
        # 1 to 6 and 2 each, by 4
        self.check(2, 0, 1, [1, 2, 3, 4, 5, 6], [0, 1, 1, 1, 1, 2])
        self.check(0, 0, 1, [0, 1, 255], [0, 1, 255])
        # 3 by 8 is below a half, 4 by 8 is one
        self.check(3, 0, 1, [3, 4, 11, 12], [0, 1, 1, 2])

    def test_below_nought(self):
        # 0, -1 .. -4 and 1 each, by 2: 0, 0, -1/2, -1, -3/2, rounded down
        self.check(1, 10, -1, [0, 1, 2, 3, 4], [10, 10, 9, 9, 8])
        # -1, -2, -3, -6, -7 and 2 each, by 4: 1/4, 0, -1/4, -1, -5/4
        self.check(2, 10, -1, [1, 2, 3, 6, 7], [10, 10, 9, 9, 8])
        self.check(0, 10, -1, [0, 1, 9, 10, 11], [10, 9, 1, 0, 0])

    def test_the_greatest_shift(self):
        # 2^30 is needed for a 1: 128 times 32767 255 is 1069514880, 129 times 1077870465; 2^30 is 1073741824
        for many, out in ((0, 0), (128, 0), (129, 1), (225, 1)):
            k = [32767] * many + [0] * (225 - many)
            self.assertEqual(square(1, 1, 15, 31, 0, k, [255]), [0, out])
        # 128 times -32768 255 is -1069547520, 129 times -1077903360
        for many, out in ((0, 100), (128, 100), (129, 99), (225, 99)):
            k = [-32768] * many + [0] * (225 - many)
            self.assertEqual(square(1, 1, 15, 31, 100, k, [255]), [0, out])
        # behind 128 of them 4226944 are needed still: 16576 255 is 4226880, 16577 255 is 4227135
        self.assertEqual(square(1, 1, 15, 31, 0, [32767] * 128 + [16577] + [0] * 96, [255]), [0, 1])
        self.assertEqual(square(1, 1, 15, 31, 0, [32767] * 128 + [16576] + [0] * 96, [255]), [0, 0])


class Adds(unittest.TestCase):
    def check(self, shift, add, factor, bytes_, out):
        self.assertEqual(square(1, len(bytes_), 1, shift, add, [factor], bytes_), [0] + out)

    def test_behind_the_shift(self):
        # (20 + 2) / 4 + 3
        self.check(2, 3, 4, [5], [8])
        self.check(2, -3, 4, [5], [2])
        # 1 to 4 and 1 each, by 2, less 1 or and 1
        self.check(1, -1, 1, [1, 2, 3, 4], [0, 0, 1, 1])
        self.check(1, 1, 1, [1, 2, 3, 4], [2, 2, 3, 3])

    def test_held(self):
        self.check(0, 0, 2, [126, 127, 128, 255], [252, 254, 255, 255])
        self.check(0, -1, 2, [127, 128, 129], [253, 255, 255])
        self.check(0, 1, 1, [0, 253, 254, 255], [1, 254, 255, 255])
        self.check(0, -1, 1, [0, 1, 2, 255], [0, 0, 1, 254])
        self.check(0, 255, -1, [0, 1, 255], [255, 254, 0])
        self.check(0, 256, -1, [0, 1, 2, 255], [255, 255, 254, 1])
        self.check(0, 0, -1, [0, 1, 255], [0, 0, 0])
        self.check(0, 0, 32767, [0, 1, 255], [0, 255, 255])
        self.check(0, 0, -32768, [0, 1, 255], [0, 0, 0])

    def test_held_at_last(self):
        # 300 by 219 is 65700, by 218 65400; held after add, not before
        self.check(0, -65536, 300, [218, 219, 220], [0, 164, 255])
        self.check(0, 65536, -300, [217, 218, 219], [255, 136, 0])


class Refusals(unittest.TestCase):
    def test_rows_of_the_square(self):
        for m in (1, 3, 5, 13, 15):
            self.assertEqual(square(2, 1, m, 0, 0, alone(m, m // 2, m // 2), [8, 9]), [0, 8, 9])
        for m in (0, 2, 4, 14, 16, 17, 18):
            self.assertEqual(square(2, 1, m, 0, 0, [0] * (m * m), [8, 9]), [-1])
            self.assertEqual(square(0, 0, m, 0, 0, [0] * (m * m), []), [-1])

    def test_how_many_numbers(self):
        for m in (1, 3, 15):
            for many in (0, m * m - 1, m * m + 1, m * m + 2, 300):
                self.assertEqual(square(2, 1, m, 0, 0, [0] * many, [8, 9]), [-1])
                self.assertEqual(square(0, 0, m, 0, 0, [0] * many, []), [-1])

    def test_very_great(self):
        great = 2 ** 64 - 1
        for m in (great, great - 1, 2 ** 32, 2 ** 32 + 1, 2 ** 63 + 1):
            self.assertEqual(square(0, 0, m, 0, 0, [], []), [-1])
            self.assertEqual(square(great, great, m, 0, 0, [], []), [-1])
        self.assertEqual(square(1, 1, 1, great, 0, [1], [1]), [-1])

    def test_shift(self):
        self.assertEqual(square(1, 1, 1, 31, 4, [1], [255]), [0, 4])
        self.assertEqual(square(1, 1, 1, 32, 4, [1], [255]), [-1])
        self.assertEqual(square(0, 0, 1, 32, 4, [1], []), [-1])

    def test_add(self):
        self.assertEqual(square(1, 1, 1, 0, 65536, [1], [5]), [0, 255])
        self.assertEqual(square(1, 1, 1, 0, -65536, [1], [5]), [0, 0])
        for add in (65537, -65537, 2 ** 31 - 1, -2 ** 31):
            self.assertEqual(square(1, 1, 1, 0, add, [1], [5]), [-1])
            self.assertEqual(square(0, 0, 1, 0, add, [1], []), [-1])


class Pictures(PictureTests, unittest.TestCase):
    def call(self, w, h, x):
        k = [1, -2, 3, -4, 5, -6, 7, -8, 9]
        answer = square(w, h, 3, 2, -1, k, x)
        self.assertEqual(k, [1, -2, 3, -4, 5, -6, 7, -8, 9])
        return answer


class PicturesOfOneNumber(PictureTests, unittest.TestCase):
    def call(self, w, h, x):
        return square(w, h, 1, 0, 0, [1], x)


class ByTheWords(unittest.TestCase):
    def test_many(self):
        numbers = Numbers(25)
        for turn in range(200):
            w, h = numbers.below(8), numbers.below(8)
            m = (1, 3, 3, 5, 7)[numbers.below(5)]
            size = (3, 9, 300, 32768)[numbers.below(4)]
            k = [numbers.below(2 * size) - size for _ in range(m * m)]
            shift = numbers.below(5) if size < 10 else numbers.below(20)
            add = numbers.below(300) - 100
            picture = numbers.picture(w, h)
            with self.subTest(w=w, h=h, m=m, shift=shift, add=add, k=k, picture=picture):
                told = square_by_words(w, h, m, shift, add, k, picture)
                self.assertEqual(square(w, h, m, shift, add, k, picture), told)

    def test_great(self):
        numbers = Numbers(26)
        k = [numbers.below(65536) - 32768 for _ in range(225)]
        for w, h in ((20, 3), (3, 20), (17, 17)):
            picture = numbers.picture(w, h)
            told = square_by_words(w, h, 15, 20, 128, k, picture)
            self.assertEqual(square(w, h, 15, 20, 128, k, picture), told)


if __name__ == "__main__":
    unittest.main()

"""Call 15, match. The answers are worked out by hand from the document."""

import unittest

from gridwave.both import match
from words import Numbers, PictureTests, match_by_words

GREAT = 2 ** 64 - 1


class Found(unittest.TestCase):
    def test_once(self):
        self.assertEqual(match(4, 3, 2, 2, [0, 0, 0, 0,
                                            0, 5, 6, 0,
                                            0, 7, 8, 0], [5, 6,
                                                          7, 8]), [0, 1, 1, 0])
        self.assertEqual(match(3, 4, 2, 2, [0, 0, 0,
                                            0, 0, 0,
                                            0, 5, 6,
                                            0, 7, 8], [5, 6,
                                                       7, 8]), [0, 1, 2, 0])
        # a row of two lies twice there, the block of two rows once
        self.assertEqual(match(4, 3, 2, 2, [5, 6, 0, 0,
                                            0, 0, 5, 6,
                                            0, 0, 7, 8], [5, 6,
                                                          7, 8]), [0, 2, 1, 0])

    def test_a_block_of_other_sides(self):
        self.assertEqual(match(4, 3, 3, 2, [9, 9, 9, 9,
                                            9, 1, 2, 3,
                                            9, 4, 5, 6], [1, 2, 3,
                                                          4, 5, 6]), [0, 1, 1, 0])
        # with the block's sides exchanged it lies elsewhere
        self.assertEqual(match(4, 3, 2, 3, [1, 2, 9, 9,
                                            3, 4, 9, 9,
                                            5, 6, 9, 9], [1, 2,
                                                          3, 4,
                                                          5, 6]), [0, 0, 0, 0])

    def test_more_than_once(self):
        # the first by rows: (2, 0), though (0, 1) is farther to the left
        self.assertEqual(match(4, 3, 2, 2, [9, 9, 1, 2,
                                            1, 2, 3, 4,
                                            3, 4, 9, 9], [1, 2,
                                                          3, 4]), [0, 2, 0, 0])
        # in one row the first to the left
        self.assertEqual(match(5, 1, 1, 1, [3, 7, 1, 7, 7], [7]), [0, 1, 0, 0])
        # one above the other
        self.assertEqual(match(1, 5, 1, 1, [3, 7, 1, 7, 7], [7]), [0, 0, 1, 0])
        # they lie over one another
        self.assertEqual(match(5, 1, 3, 1, [1, 2, 2, 2, 2], [2, 2, 2]), [0, 1, 0, 0])

    def test_all_the_same(self):
        self.assertEqual(match(64, 64, 5, 7, [8] * 4096, [8] * 35), [0, 0, 0, 0])
        self.assertEqual(match(9, 9, 9, 9, [8] * 81, [8] * 81), [0, 0, 0, 0])


class Least(unittest.TestCase):
    def test_one_row(self):
        # 9, 1, 11
        self.assertEqual(match(3, 1, 1, 1, [10, 20, 30], [19]), [0, 1, 0, 1])
        # 16, 6, 4: at the last place
        self.assertEqual(match(3, 1, 1, 1, [10, 20, 30], [26]), [0, 2, 0, 4])
        # 5, 5, 15: the first
        self.assertEqual(match(3, 1, 1, 1, [10, 20, 30], [15]), [0, 0, 0, 5])
        # 20 + 10, 10 + 0, 0 + 10: the first of the last two
        self.assertEqual(match(4, 1, 2, 1, [0, 10, 20, 30], [20, 20]), [0, 1, 0, 10])

    def test_one_column(self):
        self.assertEqual(match(1, 3, 1, 1, [10, 20, 30], [19]), [0, 0, 1, 1])
        self.assertEqual(match(1, 3, 1, 1, [10, 20, 30], [26]), [0, 0, 2, 4])
        self.assertEqual(match(1, 3, 1, 1, [10, 20, 30], [15]), [0, 0, 0, 5])
        self.assertEqual(match(1, 4, 1, 2, [0, 10, 20, 30], [20, 20]), [0, 0, 1, 10])

    def test_by_rows_then_within_them(self):
        # 4 at (2, 0), at (0, 1) and at (1, 1), more elsewhere
        self.assertEqual(match(3, 2, 1, 1, [90, 80, 14, 6, 14, 70], [10]), [0, 2, 0, 4])
        # 4 at (2, 0) still, but 3 at (0, 1) and at (1, 1)
        self.assertEqual(match(3, 2, 1, 1, [90, 80, 14, 7, 13, 70], [10]), [0, 0, 1, 3])

    def test_sizes_do_not_cancel(self):
        # 5 + 5, 5 + 1, 1 + 0
        self.assertEqual(match(4, 1, 2, 1, [0, 10, 4, 5], [5, 5]), [0, 2, 0, 1])
        self.assertEqual(match(1, 4, 1, 2, [0, 10, 4, 5], [5, 5]), [0, 0, 2, 1])
        # 10 + 10 up and down in one, 3 + 3 in the other
        self.assertEqual(match(2, 2, 1, 2, [0, 7, 20, 13], [10, 10]), [0, 1, 0, 6])

    def test_sizes_are_not_squared(self):
        # 3 + 0, 0 + 9, 9 + 2, 2 + 2: squared, the last would be the least
        self.assertEqual(match(5, 1, 2, 1, [3, 0, 9, 2, 2], [0, 0]), [0, 0, 0, 3])
        # nor is it the greatest size that counts
        self.assertEqual(match(5, 1, 2, 1, [2, 2, 9, 0, 3], [0, 0]), [0, 3, 0, 3])

    def test_two_by_two(self):
        # at (0, 0) 4 + 3 + 1 + 0, at (1, 0) 3 + 2 + 0 + 1, at (0, 1) 1 + 0 + 2 + 3, at (1, 1) 0 + 1 + 3 + 4
        self.assertEqual(match(3, 3, 2, 2, [1, 2, 3,
                                            4, 5, 6,
                                            7, 8, 9], [5, 5,
                                                       5, 5]), [0, 1, 0, 6])
        # 7 + 6 + 4 + 3, 6 + 5 + 3 + 2, 4 + 3 + 1 + 0, 3 + 2 + 0 + 1: the last
        self.assertEqual(match(3, 3, 2, 2, [1, 2, 3,
                                            4, 5, 6,
                                            7, 8, 9], [8, 8,
                                                       8, 8]), [0, 1, 1, 6])

    def test_the_last_place(self):
        self.assertEqual(match(3, 3, 1, 1, [9] * 8 + [1], [0]), [0, 2, 2, 1])
        self.assertEqual(match(64, 64, 1, 1, [9] * 4095 + [1], [1]), [0, 63, 63, 0])
        self.assertEqual(match(64, 64, 2, 3, [9] * 4095 + [1], [1] * 6), [0, 62, 61, 40])


class Sides(unittest.TestCase):
    PICTURE = [1, 2, 3,
               4, 5, 6]

    def test_as_great_as_the_picture(self):
        self.assertEqual(match(3, 2, 3, 2, self.PICTURE, self.PICTURE), [0, 0, 0, 0])
        # 1 + 2 + 3 + 4 + 5 + 6
        self.assertEqual(match(3, 2, 3, 2, self.PICTURE, [0] * 6), [0, 0, 0, 21])
        self.assertEqual(match(2, 3, 2, 3, self.PICTURE, [7] * 6), [0, 0, 0, 21])
        self.assertEqual(match(1, 1, 1, 1, [200], [3]), [0, 0, 0, 197])
        self.assertEqual(match(1, 1, 1, 1, [3], [200]), [0, 0, 0, 197])

    def test_one_cell(self):
        for place, byte in enumerate(self.PICTURE):
            self.assertEqual(match(3, 2, 1, 1, self.PICTURE, [byte]), [0, place % 3, place // 3, 0])
            self.assertEqual(match(2, 3, 1, 1, self.PICTURE, [byte]), [0, place % 2, place // 2, 0])

    def test_one_row(self):
        # as wide as the picture, then less wide
        self.assertEqual(match(3, 2, 3, 1, self.PICTURE, [4, 5, 6]), [0, 0, 1, 0])
        self.assertEqual(match(3, 2, 2, 1, self.PICTURE, [2, 3]), [0, 1, 0, 0])
        self.assertEqual(match(3, 2, 2, 1, self.PICTURE, [5, 6]), [0, 1, 1, 0])
        # 3 and 4 stand in neighbouring rows: 2 + 2, 1 + 1, 1 + 1, 2 + 2
        self.assertEqual(match(3, 2, 2, 1, self.PICTURE, [3, 4]), [0, 1, 0, 2])

    def test_one_column(self):
        self.assertEqual(match(3, 2, 1, 2, self.PICTURE, [2, 5]), [0, 1, 0, 0])
        self.assertEqual(match(3, 2, 1, 2, self.PICTURE, [3, 6]), [0, 2, 0, 0])
        self.assertEqual(match(2, 3, 1, 2, self.PICTURE, [4, 6]), [0, 1, 1, 0])
        self.assertEqual(match(2, 3, 1, 3, self.PICTURE, [2, 4, 6]), [0, 1, 0, 0])


class TheGreatest(unittest.TestCase):
    def test_sums(self):
        # 255 4096, 255 63 63, 255 64 63
        self.assertEqual(match(64, 64, 64, 64, [255] * 4096, [0] * 4096), [0, 0, 0, 1044480])
        self.assertEqual(match(64, 64, 64, 64, [0] * 4096, [255] * 4096), [0, 0, 0, 1044480])
        self.assertEqual(match(64, 64, 63, 63, [0] * 4096, [255] * 3969), [0, 0, 0, 1012095])
        self.assertEqual(match(64, 64, 64, 63, [0] * 4096, [255] * 4032), [0, 0, 0, 1028160])
        self.assertEqual(match(64, 64, 64, 63, [0] * 4095 + [1], [255] * 4032), [0, 0, 1, 1028159])


class Promise(unittest.TestCase):
    def test_a_part_of_itself(self):
        numbers = Numbers(43)
        for turn in range(150):
            w, h = 1 + numbers.below(10), 1 + numbers.below(10)
            v, u = 1 + numbers.below(w), 1 + numbers.below(h)
            left, top = numbers.below(w - v + 1), numbers.below(h - u + 1)
            picture = numbers.picture(w, h)
            block = [picture[(top + b) * w + left + a] for b in range(u) for a in range(v)]
            with self.subTest(w=w, h=h, v=v, u=u, left=left, top=top, picture=picture):
                answer = match(w, h, v, u, picture, block)
                self.assertEqual([len(answer), answer[0], answer[3]], [4, 0, 0])
                # there, or ahead of it where the same lies too
                x, y = answer[1], answer[2]
                self.assertLessEqual((y, x), (top, left))
                self.assertEqual([picture[(y + b) * w + x + a] for b in range(u) for a in range(v)], block)

    def test_each_part(self):
        # all bytes are different, so each part lies there once
        picture = [7 * place % 31 for place in range(30)]
        for v in range(1, 7):
            for u in range(1, 6):
                for top in range(5 - u + 1):
                    for left in range(6 - v + 1):
                        block = [picture[(top + b) * 6 + left + a] for b in range(u) for a in range(v)]
                        self.assertEqual(match(6, 5, v, u, picture, block), [0, left, top, 0])


class DoesNotLieWithin(unittest.TestCase):
    def test_none_of_a_block(self):
        for w, h in ((3, 2), (0, 0), (0, 3), (3, 0), (64, 64)):
            for v, u in ((0, 0), (0, 1), (1, 0), (0, 64), (64, 0)):
                self.assertEqual(match(w, h, v, u, [9] * (w * h), []), [-4])

    def test_above_the_sides(self):
        for v, u in ((4, 1), (1, 3), (4, 3), (4, 2), (3, 3), (64, 1), (1, 64), (64, 64)):
            self.assertEqual(match(3, 2, v, u, [9] * 6, [9] * (v * u)), [-4])
        for w, h in ((0, 0), (0, 3), (3, 0)):
            self.assertEqual(match(w, h, 1, 1, [], [9]), [-4])
        # as many cells as the picture, but not within it
        self.assertEqual(match(3, 2, 2, 3, [9] * 6, [9] * 6), [-4])
        self.assertEqual(match(63, 64, 64, 63, [9] * 4032, [9] * 4032), [-4])
        self.assertEqual(match(64, 63, 64, 64, [9] * 4032, [9] * 4096), [-4])

    def test_at_the_bound(self):
        self.assertEqual(match(3, 2, 3, 1, [9] * 6, [9] * 3), [0, 0, 0, 0])
        self.assertEqual(match(3, 2, 1, 2, [9] * 6, [9] * 2), [0, 0, 0, 0])


class FirstThatHolds(unittest.TestCase):
    def test_no_byte(self):
        for number in (256, GREAT):
            self.assertEqual(match(2, 1, 0, 0, [9, number], []), [-1])
            self.assertEqual(match(2, 1, 3, 1, [9, number], [1, 2, 3]), [-1])
            self.assertEqual(match(2, 1, 3, 1, [9, 9], [1, 2, number]), [-1])
            self.assertEqual(match(2, 1, 1, 2, [9, 9], [number, 2]), [-1])
            self.assertEqual(match(0, 0, 1, 1, [], [number]), [-1])

    def test_lengths(self):
        self.assertEqual(match(2, 1, 0, 0, [9], []), [-1])
        self.assertEqual(match(2, 1, 0, 5, [9, 9, 9], []), [-1])
        self.assertEqual(match(2, 1, 0, 0, [9, 9], [9]), [-1])
        self.assertEqual(match(2, 1, 3, 0, [9, 9], [9, 9, 9]), [-1])
        self.assertEqual(match(2, 1, 3, 1, [9, 9], [9, 9]), [-1])
        self.assertEqual(match(2, 1, 3, 1, [9, 9], [9] * 4), [-1])
        self.assertEqual(match(2, 1, 1, 2, [9, 9], [9]), [-1])

    def test_sides(self):
        self.assertEqual(match(2, 1, 65, 1, [9, 9], [9] * 65), [-1])
        self.assertEqual(match(2, 1, 1, 65, [9, 9], [9] * 65), [-1])
        self.assertEqual(match(65, 1, 0, 0, [9] * 65, []), [-1])
        self.assertEqual(match(1, 65, 2, 1, [9] * 65, [9, 9]), [-1])

    def test_very_great_sides(self):
        for great in (65, 2 ** 32, 2 ** 63, GREAT):
            for sides in ((great, 0, 0, 0), (0, great, 0, 0), (0, 0, great, 0), (0, 0, 0, great),
                          (great, great, great, great), (0, 0, great, great), (great, great, 0, 0)):
                self.assertEqual(match(*sides, [], []), [-1])


class Pictures(PictureTests, unittest.TestCase):
    def length(self, w, h):
        return 1 if w * h == 0 else 4

    def call(self, w, h, x):
        block = [7]
        answer = match(w, h, 1, 1, x, block)
        self.assertEqual(block, [7])
        return answer


class Blocks(PictureTests, unittest.TestCase):
    def length(self, w, h):
        return 1 if w * h == 0 else 4

    def call(self, w, h, x):
        picture = [7] * 4096
        answer = match(64, 64, w, h, picture, x)
        self.assertEqual(picture, [7] * 4096)
        return answer


class OneListAsBoth(unittest.TestCase):
    def test_not_changed(self):
        picture = [5, 6, 7, 8]
        self.assertEqual(match(2, 2, 2, 2, picture, picture), [0, 0, 0, 0])
        self.assertEqual(match(4, 1, 2, 2, picture, picture), [-4])
        self.assertEqual(picture, [5, 6, 7, 8])


class ByTheWords(unittest.TestCase):
    def test_many(self):
        numbers = Numbers(44)
        for turn in range(300):
            w, h = 1 + numbers.below(8), 1 + numbers.below(8)
            v, u = 1 + numbers.below(w), 1 + numbers.below(h)
            picture, block = numbers.picture(w, h), numbers.picture(v, u)
            with self.subTest(w=w, h=h, v=v, u=u, picture=picture, block=block):
                self.assertEqual(match(w, h, v, u, picture, block), match_by_words(w, h, v, u, picture, block))


if __name__ == "__main__":
    unittest.main()

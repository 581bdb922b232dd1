"""Call 17, turn. The answers are worked out by hand from the document."""

import unittest

from gridwave.both import turn
from words import Numbers, PictureTests, turn_by_words

GREAT = 2 ** 64 - 1


class Ordinary(unittest.TestCase):
    def each(self, w, h, picture, answers):
        for how, answer in enumerate(answers):
            with self.subTest(how=how):
                self.assertEqual(turn(w, h, how, picture), [0] + answer)

    def test_wider_than_high(self):
        self.each(3, 2, [1, 2, 3,
                         4, 5, 6], ([1, 2, 3,
                                     4, 5, 6],
                                    [3, 2, 1,
                                     6, 5, 4],
                                    [4, 5, 6,
                                     1, 2, 3],
                                    [6, 5, 4,
                                     3, 2, 1],
                                    [1, 4,
                                     2, 5,
                                     3, 6],
                                    [4, 1,
                                     5, 2,
                                     6, 3],
                                    [3, 6,
                                     2, 5,
                                     1, 4],
                                    [6, 3,
                                     5, 2,
                                     4, 1]))

    def test_higher_than_wide(self):
        self.each(2, 3, [1, 2,
                         3, 4,
                         5, 6], ([1, 2,
                                  3, 4,
                                  5, 6],
                                 [2, 1,
                                  4, 3,
                                  6, 5],
                                 [5, 6,
                                  3, 4,
                                  1, 2],
                                 [6, 5,
                                  4, 3,
                                  2, 1],
                                 [1, 3, 5,
                                  2, 4, 6],
                                 [5, 3, 1,
                                  6, 4, 2],
                                 [2, 4, 6,
                                  1, 3, 5],
                                 [6, 4, 2,
                                  5, 3, 1]))

    def test_four_by_three(self):
        self.each(4, 3, [10, 20, 30, 40,
                         50, 60, 70, 80,
                         90, 0, 255, 7], ([10, 20, 30, 40,
                                           50, 60, 70, 80,
                                           90, 0, 255, 7],
                                          [40, 30, 20, 10,
                                           80, 70, 60, 50,
                                           7, 255, 0, 90],
                                          [90, 0, 255, 7,
                                           50, 60, 70, 80,
                                           10, 20, 30, 40],
                                          [7, 255, 0, 90,
                                           80, 70, 60, 50,
                                           40, 30, 20, 10],
                                          [10, 50, 90,
                                           20, 60, 0,
                                           30, 70, 255,
                                           40, 80, 7],
                                          [90, 50, 10,
                                           0, 60, 20,
                                           255, 70, 30,
                                           7, 80, 40],
                                          [40, 80, 7,
                                           30, 70, 255,
                                           20, 60, 0,
                                           10, 50, 90],
                                          [7, 80, 40,
                                           255, 70, 30,
                                           0, 60, 20,
                                           90, 50, 10]))

    def test_as_wide_as_high(self):
        self.each(2, 2, [1, 2,
                         3, 4], ([1, 2,
                                  3, 4],
                                 [2, 1,
                                  4, 3],
                                 [3, 4,
                                  1, 2],
                                 [4, 3,
                                  2, 1],
                                 [1, 3,
                                  2, 4],
                                 [3, 1,
                                  4, 2],
                                 [2, 4,
                                  1, 3],
                                 [4, 2,
                                  3, 1]))

    def test_one_row(self):
        # exchanged it is a column: left to right changes nothing, top to bottom does
        there, back = [7, 8, 9], [9, 8, 7]
        self.each(3, 1, there, (there, back, there, back, there, there, back, back))

    def test_one_column(self):
        # exchanged it is a row
        there, back = [7, 8, 9], [9, 8, 7]
        self.each(1, 3, there, (there, there, back, back, there, back, there, back))

    def test_one_cell(self):
        for how in range(8):
            for byte in (0, 1, 255):
                self.assertEqual(turn(1, 1, how, [byte]), [0, byte])

    def test_no_cells(self):
        for how in range(8):
            for w, h in ((0, 0), (0, 1), (1, 0), (0, 64), (64, 0)):
                self.assertEqual(turn(w, h, how, []), [0])

    def test_the_greatest_sides(self):
        # at each place its x, then its y
        across = [x for y in range(64) for x in range(64)]
        down = [y for y in range(64) for x in range(64)]
        across_back, down_back = across[::-1], down[::-1]
        self.each(64, 64, across, (across, across_back, across, across_back, down, down, down_back, down_back))
        self.each(64, 64, down, (down, down, down_back, down_back, across, across_back, across, across_back))


class Promise(unittest.TestCase):
    def test_twice(self):
        numbers = Numbers(60)
        for w, h in ((1, 1), (5, 3), (3, 5), (1, 6), (6, 1), (4, 4), (0, 3), (3, 0), (64, 63), (64, 64)):
            picture = [numbers.below(256) for _ in range(w * h)]
            for how in range(4):
                with self.subTest(w=w, h=h, how=how):
                    self.assertEqual(turn(w, h, how, turn(w, h, how, picture)[1:]), [0] + picture)

    def test_exchanged_twice(self):
        # the sides are exchanged in between; 5 and 6 go round in opposite ways, 4 and 7 undo themselves
        numbers = Numbers(61)
        for w, h in ((1, 1), (5, 3), (3, 5), (1, 6), (6, 1), (4, 4), (64, 63), (64, 64)):
            picture = [numbers.below(256) for _ in range(w * h)]
            for how, then in ((4, 4), (5, 6), (6, 5), (7, 7)):
                with self.subTest(w=w, h=h, how=how):
                    self.assertEqual(turn(h, w, then, turn(w, h, how, picture)[1:]), [0] + picture)


class Refusals(unittest.TestCase):
    def test_how(self):
        self.assertEqual(turn(2, 1, 7, [1, 2]), [0, 2, 1])
        for how in (8, 9, 12, 16, 256, GREAT):
            self.assertEqual(turn(2, 1, how, [1, 2]), [-1])
            self.assertEqual(turn(0, 0, how, []), [-1])


class PicturesMirrored(PictureTests, unittest.TestCase):
    def call(self, w, h, x):
        return turn(w, h, 3, x)


class PicturesExchanged(PictureTests, unittest.TestCase):
    def call(self, w, h, x):
        return turn(w, h, 4, x)


class PicturesAsTheyWere(PictureTests, unittest.TestCase):
    def call(self, w, h, x):
        return turn(w, h, 0, x)


class ByTheWords(unittest.TestCase):
    def test_many(self):
        numbers = Numbers(62)
        for w, h in ((5, 4), (4, 5), (7, 1), (1, 7), (6, 6), (0, 2), (2, 0), (64, 3), (3, 64), (63, 64)):
            picture = [numbers.below(256) for _ in range(w * h)]
            for how in range(8):
                with self.subTest(w=w, h=h, how=how):
                    self.assertEqual(turn(w, h, how, picture), turn_by_words(w, h, how, picture))


if __name__ == "__main__":
    unittest.main()

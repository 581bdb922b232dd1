"""Call 7, window. The answers are worked out by hand from the document."""

import unittest

from gridwave.both import window
from words import FLOATING, ONE, WHOLE, cells, window_by_words

SORTS = (0, 1, 2)

# Rounded by hand: 1/3 is (1 + 1/3) / 4, 5/9 is (1 + 1/9) / 2, 1/5 is (1 + 3/5) / 8, 3/5 is (1 + 1/5) / 2,
# 9/25 is (1 + 11/25) / 4, 21/25 is (1 + 17/25) / 2; the fraction after the 1 to its nearest multiple.
THIRD = {9: 0x3555, 10: 0x3EAB, 11: 0x3EAAAAAB, 12: 0x3FD5555555555555}
FIVE_NINTHS = {9: 0x3872, 10: 0x3F0E, 11: 0x3F0E38E4, 12: 0x3FE1C71C71C71C72}
FIFTH = {9: 0x3266, 10: 0x3E4D, 11: 0x3E4CCCCD, 12: 0x3FC999999999999A}
THREE_FIFTHS = {9: 0x38CD, 10: 0x3F1A, 11: 0x3F19999A, 12: 0x3FE3333333333333}
NINE_25THS = {9: 0x35C3, 10: 0x3EB8, 11: 0x3EB851EC, 12: 0x3FD70A3D70A3D70A}
TWENTY_ONE_25THS = {9: 0x3AB8, 10: 0x3F57, 11: 0x3F570A3D, 12: 0x3FEAE147AE147AE1}


class Ordinary(unittest.TestCase):
    def check(self, sort, n, flags, *numbers):
        for kind in FLOATING:
            with self.subTest(kind=kind, sort=sort, n=n):
                self.assertEqual(window(kind, sort, n), [flags] + cells(kind, *numbers))

    def test_no_places(self):
        for sort in SORTS:
            self.check(sort, 0, 0)

    def test_one_place(self):
        for sort in SORTS:
            self.check(sort, 1, 0, 1)

    def test_two_places(self):
        # d -1/2 and 1/2; u 1/4 and 3/4
        self.check(0, 2, 0, 0.5, 0.5)
        self.check(1, 2, 0, 0.75, 0.75)
        self.check(2, 2, 0, 0.75, 0.75)

    def test_three_places(self):
        # d -2/3, 0 and 2/3; u 1/6, 1/2 and 5/6
        for kind in FLOATING:
            one = ONE[kind]
            self.assertEqual(window(kind, 0, 3), [16, THIRD[kind], one, THIRD[kind]])
            self.assertEqual(window(kind, 1, 3), [16, FIVE_NINTHS[kind], one, FIVE_NINTHS[kind]])
            self.assertEqual(window(kind, 2, 3), [16, FIVE_NINTHS[kind], one, FIVE_NINTHS[kind]])

    def test_four_places(self):
        # d -3/4, -1/4, 1/4, 3/4; u 1/8, 3/8, 5/8, 7/8
        self.check(0, 4, 0, 0.25, 0.75, 0.75, 0.25)
        self.check(1, 4, 0, 0.4375, 0.9375, 0.9375, 0.4375)
        self.check(2, 4, 0, 0.4375, 0.9375, 0.9375, 0.4375)

    def test_five_places(self):
        # d -4/5, -2/5, 0, 2/5, 4/5; u 1/10, 3/10, 1/2, 7/10, 9/10
        for kind in FLOATING:
            one = ONE[kind]
            end, inner = FIFTH[kind], THREE_FIFTHS[kind]
            self.assertEqual(window(kind, 0, 5), [16, end, inner, one, inner, end])
            end, inner = NINE_25THS[kind], TWENTY_ONE_25THS[kind]
            self.assertEqual(window(kind, 1, 5), [16, end, inner, one, inner, end])
            self.assertEqual(window(kind, 2, 5), [16, end, inner, one, inner, end])

    def test_eight_places(self):
        self.check(0, 8, 0, *[k / 8 for k in (1, 3, 5, 7, 7, 5, 3, 1)])
        for sort in (1, 2):
            self.check(sort, 8, 0, *[k / 64 for k in (15, 39, 55, 63, 63, 55, 39, 15)])


class Places(unittest.TestCase):
    def test_just_one(self):
        # d is 0 at the middle of an odd number of places
        for kind in FLOATING:
            for sort in SORTS:
                for n in (1, 3, 5, 7, 99, 4095):
                    self.assertEqual(window(kind, sort, n)[1 + n // 2], ONE[kind])

    def test_none_is_nought_or_small(self):
        # 2 i + 1 is above 0 and below 2 n, so d is never 1 or -1; the least is 1/4096
        for kind in FLOATING:
            for sort in SORTS:
                for n in (1, 2, 3, 31, 32, 4095, 4096):
                    cells_of_n = window(kind, sort, n)[1:]
                    self.assertEqual(len(cells_of_n), n)
                    self.assertGreaterEqual(min(cells_of_n), WHOLE[kind])
                    self.assertLessEqual(max(cells_of_n), ONE[kind])

    def test_both_halves_are_alike(self):
        for kind in FLOATING:
            for sort in SORTS:
                for n in (6, 7, 100, 4096):
                    cells_of_n = window(kind, sort, n)[1:]
                    self.assertEqual(cells_of_n, cells_of_n[::-1])

    def test_the_most_places(self):
        # sort 0: 1 to 4095 over 4096, odd ones: 12 bits
        for kind in (11, 12):
            numbers = [(2 * i + 1) / 4096 for i in range(2048)]
            self.assertEqual(window(kind, 0, 4096), [0] + cells(kind, *(numbers + numbers[::-1])))
        # sorts 1 and 2: (2 i + 1) (8191 - 2 i) over 2^24: at most 24 bits
        for kind in (11, 12):
            numbers = [(2 * i + 1) * (8191 - 2 * i) / 2 ** 24 for i in range(4096)]
            for sort in (1, 2):
                self.assertEqual(window(kind, sort, 4096), [0] + cells(kind, *numbers))

    def test_the_most_places_rounded(self):
        # 4095/4096 and 1 - 1/2^24 are nearer to 1 than to what is next below, but for 4095/4096 at 11 bits: a half
        for kind in (9, 10):
            for sort in SORTS:
                out = window(kind, sort, 4096)
                self.assertEqual(out[0], 16)
                self.assertEqual(out[2048:2050], [ONE[kind], ONE[kind]])
            self.assertEqual(window(kind, 0, 4096)[1:3], cells(kind, 1 / 4096, 3 / 4096))
        # 8191/2^24 is 2^-11 less 1/2^24: to 2^-11 at 11 bits and at 8
        for kind in (9, 10):
            for sort in (1, 2):
                self.assertEqual(window(kind, sort, 4096)[1], cells(kind, 2.0 ** -11)[0])


class Halves(unittest.TestCase):
    def test_sort_0(self):
        # kind 10: 257/512 lies between 128 and 129 over 256, 259/512 between 129 and 130, 261/512: 130 and 131
        out = window(10, 0, 512)
        self.assertEqual(out[0], 16)
        self.assertEqual(out[1 + 128:1 + 131], cells(10, 128 / 256, 130 / 256, 130 / 256))
        self.assertEqual(out[1 + 381:1 + 384], cells(10, 130 / 256, 130 / 256, 128 / 256))
        # kind 9: 2049/4096 lies between 1024 and 1025 over 2048, 2051/4096 between 1025 and 1026
        out = window(9, 0, 4096)
        self.assertEqual(out[0], 16)
        self.assertEqual(out[1 + 1024:1 + 1027], cells(9, 1024 / 2048, 1026 / 2048, 1026 / 2048))

    def test_sorts_1_and_2(self):
        for sort in (1, 2):
            # kind 10: 5 59 = 295 over 1024 lies between 147 and 148 over 512, 7 57 = 399 between 199 and 200
            out = window(10, sort, 32)
            self.assertEqual(out[0], 16)
            self.assertEqual(out[1 + 2:1 + 4], cells(10, 148 / 512, 200 / 512))
            # kind 9: 19 109 = 2071 over 4096 lies between 1035 and 1036 over 2048
            out = window(9, sort, 64)
            self.assertEqual(out[0], 16)
            self.assertEqual(out[1 + 9], cells(9, 1036 / 2048)[0])

    def test_flag_only_where_something_is_lost(self):
        # sort 0: odd numbers below n over n: 8 bits up to n 256, 11 bits up to n 2048
        self.assertEqual([window(10, 0, n)[0] for n in (128, 256, 512)], [0, 0, 16])
        self.assertEqual([window(9, 0, n)[0] for n in (1024, 2048, 4096)], [0, 0, 16])
        # sorts 1 and 2: over n^2: 8 bits at n 16, 10 at n 32, 12 at n 64
        for sort in (1, 2):
            self.assertEqual([window(10, sort, n)[0] for n in (8, 16, 32)], [0, 0, 16])
            self.assertEqual([window(9, sort, n)[0] for n in (16, 32, 64)], [0, 0, 16])
        for kind in FLOATING:
            for sort in SORTS:
                self.assertEqual([window(kind, sort, n)[0] for n in (3, 6, 7, 4095)], [16] * 4)


class Refusals(unittest.TestCase):
    def test_kind(self):
        for kind in (0, 1, 8, 13, 2 ** 64 - 1):
            for sort in SORTS:
                self.assertEqual(window(kind, sort, 0), [-1])
                self.assertEqual(window(kind, sort, 3), [-1])

    def test_sort(self):
        for kind in FLOATING:
            self.assertEqual(window(kind, 2, 1), [0, ONE[kind]])
            for sort in (3, 2 ** 64 - 1):
                self.assertEqual(window(kind, sort, 1), [-1])
                self.assertEqual(window(kind, sort, 0), [-1])

    def test_places(self):
        for kind in FLOATING:
            for sort in SORTS:
                self.assertEqual(len(window(kind, sort, 4096)), 4097)
                self.assertEqual(window(kind, sort, 4097), [-1])
                self.assertEqual(window(kind, sort, 2 ** 64 - 1), [-1])


class ByTheWords(unittest.TestCase):
    def test_small(self):
        for kind in FLOATING:
            for sort in SORTS:
                for n in list(range(40)) + [100, 255, 257]:
                    with self.subTest(kind=kind, sort=sort, n=n):
                        self.assertEqual(window(kind, sort, n), window_by_words(kind, sort, n))

    def test_great(self):
        for kind in FLOATING:
            for sort, n in ((0, 4095), (1, 4093), (2, 3072)):
                with self.subTest(kind=kind, sort=sort, n=n):
                    self.assertEqual(window(kind, sort, n), window_by_words(kind, sort, n))


class Kept(unittest.TestCase):
    def test_nothing(self):
        for kind in FLOATING:
            self.assertEqual(window(kind, 0, 3)[0], 16)
            self.assertEqual(window(kind, 0, 2)[0], 0)


if __name__ == "__main__":
    unittest.main()

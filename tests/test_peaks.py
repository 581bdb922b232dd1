"""Call 6, peaks. The answers are worked out by hand from the document."""

import unittest

from gridwave.both import peaks
from words import BITS, FLOATING, INF, KINDS, NONE, ONE, SIGN, Numbers, cell, cells, other_nones, peaks_by_words


class Ordinary(unittest.TestCase):
    def check(self, x, places):
        for kind in KINDS:
            with self.subTest(kind=kind):
                self.assertEqual(peaks(kind, cells(kind, *x)), [len(places)] + places)

    def test_none(self):
        self.check([1, 2, 3, 4], [])
        self.check([4, 3, 2, 1], [])
        self.check([2, 2, 2, 2], [])
        self.check([3, 1, 3], [])

    def test_one(self):
        self.check([1, 3, 2], [1])
        self.check([1, 2, 3, 4, 0], [3])

    def test_several(self):
        self.check([1, 3, 2, 5, 4, 6, 0, 1], [1, 3, 5])

    def test_the_ends_are_none(self):
        self.check([5, 1, 3, 1, 5], [2])

    def test_fewer_than_three(self):
        self.check([], [])
        self.check([5], [])
        self.check([1, 2], [])
        self.check([2, 1], [])
        self.check([2, 2], [])

    def test_a_height_that_goes_on(self):
        # the first of its places is told
        self.check([1, 2, 2, 1], [1])
        self.check([0, 1, 2, 2, 2, 2, 0], [2])
        self.check([1, 3, 2, 5, 5, 4, 6], [1, 3])

    def test_a_height_that_goes_on_and_up(self):
        self.check([1, 2, 2, 3, 1], [3])
        self.check([1, 2, 2, 3], [])

    def test_a_height_up_to_the_last(self):
        self.check([1, 2, 2, 2], [])
        self.check([1, 3, 1, 2, 2], [1])

    def test_a_height_from_the_first_on(self):
        self.check([2, 2, 1], [])
        self.check([2, 2, 1, 3, 0], [3])

    def test_long_heights(self):
        self.check([0] + [1] * 4094 + [0], [1])
        self.check([0] + [1] * 4095, [])
        self.check([0, 1] * 2048, list(range(1, 4094, 2)))


class Whole(unittest.TestCase):
    def test_signs(self):
        for kind in range(1, 5):
            half = 2 ** (BITS[kind] - 1)
            last = 2 * half - 1
            # -1, 0, -1: a peak with sign alone
            self.assertEqual(peaks(kind, [last, 0, last]), [1, 1])
            self.assertEqual(peaks(kind + 4, [last, 0, last]), [0])
            # the greatest, the least, the greatest with sign
            self.assertEqual(peaks(kind, [half - 1, half, half - 1]), [0])
            self.assertEqual(peaks(kind + 4, [half - 1, half, half - 1]), [1, 1])
            # the least, -1, the least
            self.assertEqual(peaks(kind, [half, last, half]), [1, 1])
            # the least, the greatest, -1
            self.assertEqual(peaks(kind, [half, half - 1, last]), [1, 1])
            self.assertEqual(peaks(kind + 4, [half, half - 1, last]), [0])


class Floating(unittest.TestCase):
    def test_below_nought(self):
        for kind in FLOATING:
            self.assertEqual(peaks(kind, cells(kind, -2, -1, -2, -0.5, -3)), [2, 1, 3])
            self.assertEqual(peaks(kind, cells(kind, -1, -2, -1)), [0])

    def test_both_noughts_are_the_same(self):
        for kind in FLOATING:
            less, sign = cell(kind, -1), SIGN[kind]
            self.assertEqual(peaks(kind, [less, sign, 0, less]), [1, 1])
            self.assertEqual(peaks(kind, [less, 0, sign, less]), [1, 1])
            self.assertEqual(peaks(kind, [sign, 0, less]), [0])
            self.assertEqual(peaks(kind, [sign, 0, sign]), [0])
            self.assertEqual(peaks(kind, [less, 0, sign]), [0])
            self.assertEqual(peaks(kind, [sign, 1, 0]), [1, 1])
            self.assertEqual(peaks(kind, [1 + sign, sign, 1 + sign]), [1, 1])

    def test_infinite(self):
        for kind in FLOATING:
            one, inf, sign = ONE[kind], INF[kind], SIGN[kind]
            self.assertEqual(peaks(kind, [one, inf, one]), [1, 1])
            self.assertEqual(peaks(kind, [one, inf, inf, one]), [1, 1])
            self.assertEqual(peaks(kind, [inf + sign, one, inf + sign]), [1, 1])
            self.assertEqual(peaks(kind, [inf + sign, inf + sign, one, inf]), [0])
            self.assertEqual(peaks(kind, [inf - 1, inf, inf - 1]), [1, 1])
            self.assertEqual(peaks(kind, [inf + sign, inf + sign - 1, inf + sign]), [1, 1])

    def test_none(self):
        for kind in FLOATING:
            one, inf, sign = ONE[kind], INF[kind], SIGN[kind]
            for other in other_nones(kind) + [NONE[kind]]:
                with self.subTest(kind=kind, other=other):
                    # before, behind, at the place itself
                    self.assertEqual(peaks(kind, [other, one, 0]), [0])
                    self.assertEqual(peaks(kind, [0, one, other]), [0])
                    self.assertEqual(peaks(kind, [0, other, 0]), [0])
                    self.assertEqual(peaks(kind, [0, other, other, 0]), [0])
                    # within a height
                    self.assertEqual(peaks(kind, [0, one, other, one, 0]), [0])
                    self.assertEqual(peaks(kind, [0, one, one, other, 0]), [0])
                    # further away it does nothing
                    self.assertEqual(peaks(kind, [other, 0, one, 0, other]), [1, 2])
                    self.assertEqual(peaks(kind, [inf + sign, inf, inf, inf + sign, other]), [1, 1])


class Refusals(unittest.TestCase):
    def test_kind(self):
        for kind in (0, 13, 2 ** 64 - 1):
            self.assertEqual(peaks(kind, [0, 1, 0]), [-1])
            self.assertEqual(peaks(kind, []), [-1])
        for kind in KINDS:
            self.assertEqual(peaks(kind, [0, 1, 0]), [1, 1])

    def test_no_cell(self):
        for kind in KINDS:
            bound = 2 ** BITS[kind]
            if bound < 2 ** 64:
                self.assertEqual(peaks(kind, [0, bound, 0]), [-1])
                self.assertEqual(peaks(kind, [2 ** 64 - 1]), [-1])
            self.assertEqual(peaks(kind, [bound - 1]), [0])

    def test_lengths(self):
        for kind in KINDS:
            self.assertEqual(peaks(kind, [0] * 4096), [0])
            self.assertEqual(peaks(kind, [0] * 4097), [-1])


class ByTheWords(unittest.TestCase):
    def test_many(self):
        numbers = Numbers(11)
        for kind in KINDS:
            for turn in range(80):
                n = numbers.below(12)
                if kind in FLOATING and turn % 2:
                    pool = [numbers.odd_cell(kind) for _ in range(4)]
                else:
                    pool = [numbers.below(2 ** BITS[kind]) for _ in range(4)]
                x = [pool[numbers.below(4)] for _ in range(n)]
                with self.subTest(kind=kind, x=x):
                    self.assertEqual(peaks(kind, x), peaks_by_words(kind, x))


class HandedIn(unittest.TestCase):
    def test_not_changed(self):
        for kind in KINDS:
            x = [0, 2 ** BITS[kind] - 1, 3, 5, 5, 1]
            before = list(x)
            first = peaks(kind, x)
            self.assertEqual(x, before)
            self.assertEqual(peaks(kind, x), first)


if __name__ == "__main__":
    unittest.main()

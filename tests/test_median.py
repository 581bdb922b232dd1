"""Call 5, median. The answers are worked out by hand from the document."""

import unittest

from gridwave.both import median
from words import BITS, FLOATING, INF, KINDS, NONE, ONE, SIGN, Numbers, cells, median_by_words, other_nones


class Ordinary(unittest.TestCase):
    def check(self, edge, r, x, out):
        for kind in KINDS:
            with self.subTest(kind=kind):
                self.assertEqual(median(kind, edge, r, cells(kind, *x)), [0] + cells(kind, *out))

    def test_each_edge(self):
        # within: of 1 9 5, of 9 5 7; beyond the first left out, 1, 7, 9; beyond the last left out, 7, 1, 5
        self.check(0, 1, [1, 9, 5, 7], [1, 5, 7, 5])
        self.check(1, 1, [1, 9, 5, 7], [1, 5, 7, 7])
        self.check(2, 1, [1, 9, 5, 7], [7, 5, 7, 5])
        self.check(3, 1, [1, 9, 5, 7], [9, 5, 7, 5])

    def test_an_even_number_of_cells(self):
        # of 5 1 4; of 5 1 4 2 the second; of all; of 1 4 2 3 the second; of 4 2 3
        self.check(0, 2, [5, 1, 4, 2, 3], [4, 2, 3, 2, 3])

    def test_radius_nought(self):
        for edge in range(4):
            self.check(edge, 0, [5, 1, 4, 4, 3], [5, 1, 4, 4, 3])

    def test_radius_of_n_and_above(self):
        for r in (3, 4, 64):
            self.check(0, r, [5, 1, 9], [5, 5, 5])
        # 5 5 5 5 1 9 9; 5 5 5 1 9 9 9; 5 5 1 9 9 9 9
        self.check(1, 3, [5, 1, 9], [5, 5, 9])
        # 5 1 9 5 1 9 5; 1 9 5 1 9 5 1; 9 5 1 9 5 1 9
        self.check(2, 3, [5, 1, 9], [5, 5, 5])
        # 1 9 1 5 1 9 1; 9 1 5 1 9 1 5; 1 5 1 9 1 5 1
        self.check(3, 3, [5, 1, 9], [1, 5, 1])
        # 64 before or behind outweigh what is within
        self.check(1, 64, [5, 1, 9], [5, 5, 9])

    def test_round_about_twice(self):
        # of x(-4) to x(4): 1 2 1 2 1 2 1 2 1; of x(-3) to x(5): 2 1 2 1 2 1 2 1 2
        self.check(2, 4, [1, 2], [1, 2])
        self.check(3, 4, [1, 2], [1, 2])

    def test_one_sample(self):
        for edge in range(4):
            for r in (0, 1, 2, 64):
                self.check(edge, r, [7], [7])

    def test_no_samples(self):
        for edge in range(4):
            for r in (0, 1, 64):
                self.check(edge, r, [], [])

    def test_the_greatest_radius(self):
        for kind in (2, 3, 4, 6, 7, 8, 11, 12):
            x = cells(kind, *range(200))
            # left out: of max(0, i - 64) to min(199, i + 64) the middle one
            middles = [(max(0, i - 64) + min(199, i + 64)) // 2 for i in range(200)]
            self.assertEqual(median(kind, 0, 64, x), [0] + cells(kind, *middles))
            # as many ends beyond as there are less or greater ones within
            self.assertEqual(median(kind, 1, 64, x), [0] + x)


class Whole(unittest.TestCase):
    def test_signs(self):
        for kind in range(1, 5):
            half = 2 ** (BITS[kind] - 1)
            last = 2 * half - 1
            # -1, -2^(b - 1), 2^(b - 1) - 1, 0, 1
            x = [last, half, half - 1, 0, 1]
            self.assertEqual(median(kind, 0, 1, x), [0, half, last, 0, 1, 0])
            self.assertEqual(median(kind, 0, 4, x), [0] + [0] * 5)
            # the same cells without sign
            self.assertEqual(median(kind + 4, 0, 1, x), [0, half, half, half - 1, 1, 0])
            self.assertEqual(median(kind + 4, 0, 4, x), [0] + [half - 1] * 5)


class Floating(unittest.TestCase):
    def test_noughts(self):
        for kind in FLOATING:
            sign = SIGN[kind]
            self.assertEqual(median(kind, 0, 1, [0, sign]), [0, sign, sign])
            self.assertEqual(median(kind, 0, 1, [sign, 0]), [0, sign, sign])
            self.assertEqual(median(kind, 0, 1, [sign, 0, 0]), [0, sign, 0, 0])
            self.assertEqual(median(kind, 1, 1, [0, sign, 0]), [0, 0, 0, 0])
            self.assertEqual(median(kind, 1, 1, [sign, 0, sign]), [0, sign, sign, sign])
            # between the greatest below and the least above
            self.assertEqual(median(kind, 0, 2, [1, 0, 1 + sign]), [0, 0, 0, 0])
            self.assertEqual(median(kind, 0, 2, [1, sign, 1 + sign]), [0, sign, sign, sign])
            self.assertEqual(median(kind, 0, 1, [1 + sign, sign]), [0, 1 + sign, 1 + sign])

    def test_infinite(self):
        for kind in FLOATING:
            one, sign, inf = ONE[kind], SIGN[kind], INF[kind]
            self.assertEqual(median(kind, 0, 1, [inf, inf + sign, one]), [0, inf + sign, one, inf + sign])
            self.assertEqual(median(kind, 0, 1, [inf, inf - 1]), [0, inf - 1, inf - 1])
            self.assertEqual(median(kind, 0, 1, [inf + sign, inf + sign - 1]), [0, inf + sign, inf + sign])

    def test_numbers_below_nought(self):
        for kind in FLOATING:
            x = cells(kind, -3, -1, -2, 1, -0.5)
            # of -3 -1; -3 -1 -2; -1 -2 1; -2 1 -0.5; 1 -0.5
            self.assertEqual(median(kind, 0, 1, x), [0] + cells(kind, -3, -2, -1, -0.5, -0.5))

    def test_none_is_behind_all(self):
        for kind in FLOATING:
            one, none, inf, sign = ONE[kind], NONE[kind], INF[kind], SIGN[kind]
            for other in other_nones(kind) + [none]:
                with self.subTest(kind=kind, other=other):
                    self.assertEqual(median(kind, 0, 1, [other, one]), [0, one, one])
                    self.assertEqual(median(kind, 0, 1, [inf, other]), [0, inf, inf])
                    # of other inf; of other inf other; of inf other
                    self.assertEqual(median(kind, 0, 1, [other, inf, other]), [0, inf, none, inf])
                    self.assertEqual(median(kind, 0, 1, [inf + sign, other, inf]), [0, inf + sign, inf, inf])

    def test_one_form(self):
        for kind in FLOATING:
            others = other_nones(kind)
            for edge in range(4):
                self.assertEqual(median(kind, edge, 0, others), [0] + [NONE[kind]] * 5)
                self.assertEqual(median(kind, edge, 2, others), [0] + [NONE[kind]] * 5)
        # a whole kind's cells are their own
        self.assertEqual(median(6, 0, 0, other_nones(9)), [0] + other_nones(9))
        self.assertEqual(median(2, 0, 0, other_nones(10)), [0] + other_nones(10))


class Refusals(unittest.TestCase):
    def test_kind(self):
        for kind in (0, 13, 2 ** 64 - 1):
            self.assertEqual(median(kind, 0, 0, [0]), [-1])
            self.assertEqual(median(kind, 0, 0, []), [-1])
        for kind in KINDS:
            self.assertEqual(median(kind, 0, 0, [0]), [0, 0])

    def test_edge_and_radius(self):
        for kind in KINDS:
            self.assertEqual(median(kind, 3, 0, [0]), [0, 0])
            self.assertEqual(median(kind, 4, 0, [0]), [-1])
            self.assertEqual(median(kind, 4, 0, []), [-1])
            self.assertEqual(median(kind, 0, 64, [0]), [0, 0])
            self.assertEqual(median(kind, 0, 65, [0]), [-1])
            self.assertEqual(median(kind, 0, 65, []), [-1])
            self.assertEqual(median(kind, 0, 2 ** 64 - 1, [0]), [-1])
            self.assertEqual(median(kind, 2 ** 64 - 1, 0, [0]), [-1])

    def test_no_cell(self):
        for kind in KINDS:
            bound = 2 ** BITS[kind]
            if bound < 2 ** 64:
                self.assertEqual(median(kind, 0, 1, [0, bound]), [-1])
                self.assertEqual(median(kind, 0, 0, [2 ** 64 - 1]), [-1])
            out = bound - 1 if kind < 9 else NONE[kind]
            self.assertEqual(median(kind, 0, 0, [bound - 1]), [0, out])

    def test_lengths(self):
        for kind in KINDS:
            self.assertEqual(median(kind, 0, 1, [0] * 4096), [0] * 4097)
            self.assertEqual(median(kind, 0, 1, [0] * 4097), [-1])


class ByTheWords(unittest.TestCase):
    def test_many(self):
        numbers = Numbers(10)
        for kind in KINDS:
            for turn in range(60):
                n = numbers.below(10)
                if kind in FLOATING and turn % 2:
                    x = [numbers.odd_cell(kind) for _ in range(n)]
                else:
                    x = [numbers.below(2 ** BITS[kind]) for _ in range(n)]
                edge, r = turn % 4, numbers.below(14)
                with self.subTest(kind=kind, edge=edge, r=r, x=x):
                    self.assertEqual(median(kind, edge, r, x), median_by_words(kind, edge, r, x))


class HandedIn(unittest.TestCase):
    def test_not_changed(self):
        for kind in KINDS:
            x = [9, 3, 7, 2 ** BITS[kind] - 1, 0]
            before = list(x)
            for edge in range(4):
                first = median(kind, edge, 1, x)
                self.assertEqual(x, before)
                self.assertEqual(median(kind, edge, 1, x), first)


if __name__ == "__main__":
    unittest.main()

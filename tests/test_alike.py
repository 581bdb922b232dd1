"""Call 4, alike. The answers are worked out by hand from the document."""

import unittest

from gridwave.both import alike
from gridwave.floating import Floats
from gridwave.samples import by_halves
from words import FLOATING, GREATEST, INF, NONE, ONE, SIGN, WHOLE, Numbers, alike_by_words, cell, cells, other_nones

# Half of the last place of 1.
HALF_LAST = {9: 2.0 ** -11, 10: 2.0 ** -8, 11: 2.0 ** -24, 12: 2.0 ** -53}


class Ordinary(unittest.TestCase):
    def check(self, lags, x, y, out):
        for kind in FLOATING:
            with self.subTest(kind=kind):
                answer = alike(kind, lags, cells(kind, *x), cells(kind, *y))
                self.assertEqual(answer, [0] + cells(kind, *out))

    def test_each_lag(self):
        # 4 + 10 + 18; 1 times 5 and 2 times 6; 1 times 6
        self.check(3, [1, 2, 3], [4, 5, 6], [32, 17, 6])
        # the other way about: 4 times 2 and 5 times 3; 4 times 3
        self.check(3, [4, 5, 6], [1, 2, 3], [32, 23, 12])

    def test_fewer_lags(self):
        self.check(0, [1, 2, 3], [4, 5, 6], [])
        self.check(1, [1, 2, 3], [4, 5, 6], [32])
        self.check(2, [1, 2, 3], [4, 5, 6], [32, 17])

    def test_one_and_two_samples(self):
        self.check(1, [3], [-0.5], [-1.5])
        self.check(2, [3, 2], [-0.5, 4], [6.5, 12])

    def test_no_samples(self):
        self.check(0, [], [], [])

    def test_with_itself(self):
        # 1 + 1 + 1 + 1; -1 - 1 + 1; 1 - 1; 1
        self.check(4, [1, -1, 1, 1], [1, -1, 1, 1], [4, -1, 0, 1])

    def test_cells_as_numbers(self):
        # 3 times 1/2
        self.assertEqual(alike(9, 1, [0x4200], [0x3800]), [0, 0x3E00])
        self.assertEqual(alike(10, 1, [0x4040], [0x3F00]), [0, 0x3FC0])
        self.assertEqual(alike(11, 1, [0x40400000], [0x3F000000]), [0, 0x3FC00000])
        self.assertEqual(alike(12, 1, [0x4008000000000000], [0x3FE0000000000000]), [0, 0x3FF8000000000000])


class Halves(unittest.TestCase):
    """With u half of 1's last place: 1 + u is 1, 1 + 3 u is 1 + 4 u, 1 + 5 u is 1 + 4 u."""

    def check(self, numbers, flags, places):
        """numbers: 1 for one, 0 for u; the sum is 1 and so many of its last places."""
        for kind in FLOATING:
            one = ONE[kind]
            x = [one if number else cell(kind, HALF_LAST[kind]) for number in numbers]
            with self.subTest(kind=kind, numbers=numbers):
                self.assertEqual(alike(kind, 1, x, [one] * len(x)), [flags, one + places])

    def test_of_none(self):
        # lags at most n leave one product at least, so no call shows this
        for kind in FLOATING:
            work = Floats(kind)
            self.assertEqual(work.cell_of(by_halves(work, [])), 0)
            self.assertEqual(work.flags, 0)

    def test_one(self):
        self.check([1], 0, 0)

    def test_two(self):
        self.check([1, 0], 16, 0)

    def test_three(self):
        # (1 + u) + u; (u + u) + 1
        self.check([1, 0, 0], 16, 0)
        self.check([0, 0, 1], 0, 1)

    def test_four(self):
        # (1 + u) + (u + u); in a row it would be 1
        self.check([1, 0, 0, 0], 16, 1)

    def test_five(self):
        # ((1 + u) + (u + u)) + u = 1 + 3 u
        self.check([1, 0, 0, 0, 0], 16, 2)
        # ((u + u) + (1 + u)) + u = 1 + 3 u; two and three would be 1 + 2 u
        self.check([0, 0, 1, 0, 0], 16, 2)
        # ((u + u) + (u + u)) + 1
        self.check([0, 0, 0, 0, 1], 0, 2)

    def test_seven(self):
        # ((1 + u) + (u + u)) + ((u + u) + u) = 1 + 2 u + 3 u
        self.check([1, 0, 0, 0, 0, 0, 0], 16, 2)

    def test_eight(self):
        # (1 + 2 u) + 4 u; in a row it would be 1
        self.check([1, 0, 0, 0, 0, 0, 0, 0], 16, 3)

    def test_nine(self):
        # (1 + 6 u) + u = 1 + 7 u, which is 1 + 8 u
        self.check([1, 0, 0, 0, 0, 0, 0, 0, 0], 16, 4)

    def test_each_lag_has_halves_of_its_own(self):
        for kind in FLOATING:
            one, u = ONE[kind], cell(kind, HALF_LAST[kind])
            # of 5, 4, 3, 2 and 1: 1 + 4 u, 1 + 2 u, 1, 1, 1
            self.assertEqual(alike(kind, 5, [one] + [u] * 4, [one] * 5), [16, one + 2, one + 1, one, one, one])


class Rounding(unittest.TestCase):
    def test_products_are_rounded(self):
        # with v = 1 + 2^-10: v^2 is 1 + 2^-9, and less that 0, not 2^-20
        self.assertEqual(alike(9, 1, [0x3C01, 0x3C00], [0x3C01, 0xBC02]), [16, 0])
        self.assertEqual(alike(10, 1, [0x3F81, 0x3F80], [0x3F81, 0xBF82]), [16, 0])
        self.assertEqual(alike(11, 1, [0x3F800001, 0x3F800000], [0x3F800001, 0xBF800002]), [16, 0])
        self.assertEqual(alike(12, 1, [ONE[12] + 1, ONE[12]], [ONE[12] + 1, SIGN[12] + ONE[12] + 2]), [16, 0])

    def test_sums_of_neighbours(self):
        for kind in FLOATING:
            one, sign, two = ONE[kind], SIGN[kind], cell(kind, 2)
            # 1 + (1 + 1 place) is 2 and half of its last place; 1 + (1 + 3 places) is 2 and 3 halves
            for places, out in ((1, two), (3, two + 2), (2, two + 1)):
                flags = 16 if places % 2 else 0
                self.assertEqual(alike(kind, 1, [one, one + places], [one, one]), [flags, out])
                self.assertEqual(alike(kind, 1, [one + sign, one + places + sign], [one, one]), [flags, out + sign])

    def test_below_the_whole_fractions(self):
        for kind in FLOATING:
            one, half, sign, least = ONE[kind], cell(kind, 0.5), SIGN[kind], WHOLE[kind]
            self.assertEqual(alike(kind, 1, [3], [half]), [24, 2])
            self.assertEqual(alike(kind, 1, [5], [half + sign]), [24, 2 + sign])
            self.assertEqual(alike(kind, 1, [1], [half + sign]), [24, sign])
            self.assertEqual(alike(kind, 1, [1], [1]), [24, 0])
            # sums of these are exact
            self.assertEqual(alike(kind, 1, [1, least - 1], [one, one]), [0, least])
            self.assertEqual(alike(kind, 1, [least, 1], [one, one + sign]), [0, least - 1])


class Flags(unittest.TestCase):
    def test_too_great(self):
        for kind in FLOATING:
            one, two, inf, sign, top = ONE[kind], cell(kind, 2), INF[kind], SIGN[kind], GREATEST[kind]
            # by a product, by a sum
            self.assertEqual(alike(kind, 1, [top], [two + sign]), [20, inf + sign])
            self.assertEqual(alike(kind, 1, [top, top], [one, one]), [20, inf])
            self.assertEqual(alike(kind, 1, [top + sign, top + sign], [one, one]), [20, inf + sign])

    def test_invalid(self):
        for kind in FLOATING:
            one, inf, sign, none = ONE[kind], INF[kind], SIGN[kind], NONE[kind]
            self.assertEqual(alike(kind, 1, [inf], [0]), [1, none])
            self.assertEqual(alike(kind, 1, [sign], [inf + sign]), [1, none])
            self.assertEqual(alike(kind, 1, [inf, inf], [one, one + sign]), [1, none])
            # at lag 1 alone: x(0) y(1)
            self.assertEqual(alike(kind, 2, [0, one], [one, inf]), [1, inf, none])

    def test_sums_of_flags(self):
        for kind in FLOATING:
            one, two, half, inf, none = ONE[kind], cell(kind, 2), cell(kind, 0.5), INF[kind], NONE[kind]
            top, u = GREATEST[kind], cell(kind, HALF_LAST[kind])
            # 1 and u isn't exact, infinite times 0 is invalid
            self.assertEqual(alike(kind, 1, [one, u, inf], [one, one, 0]), [17, none])
            self.assertEqual(alike(kind, 1, [top, inf], [two, 0]), [21, none])
            self.assertEqual(alike(kind, 1, [1, inf], [half, 0]), [25, none])
            self.assertEqual(alike(kind, 1, [1, top], [half, two]), [28, inf])
            self.assertEqual(alike(kind, 1, [1, top, inf], [half, two, 0]), [29, none])
            # at lag 0 the least and 1/2, at lag 1 half the least
            self.assertEqual(alike(kind, 2, [1, one], [one, half]), [24, half, 0])


class Signs(unittest.TestCase):
    def test_noughts(self):
        for kind in FLOATING:
            one, sign = ONE[kind], SIGN[kind]
            less = one + sign
            # one product is itself
            self.assertEqual(alike(kind, 1, [sign], [one]), [0, sign])
            self.assertEqual(alike(kind, 1, [0], [less]), [0, sign])
            self.assertEqual(alike(kind, 1, [sign], [less]), [0, 0])
            self.assertEqual(alike(kind, 1, [sign], [sign]), [0, 0])
            self.assertEqual(alike(kind, 1, [0], [one]), [0, 0])
            # both with the sign, one with it, neither
            self.assertEqual(alike(kind, 1, [sign, sign], [one, one]), [0, sign])
            self.assertEqual(alike(kind, 1, [sign, 0], [one, one]), [0, 0])
            self.assertEqual(alike(kind, 1, [0, sign], [one, one]), [0, 0])
            self.assertEqual(alike(kind, 1, [sign] * 3, [one] * 3), [0, sign])
            # 1 - 1, -1 + 1
            self.assertEqual(alike(kind, 1, [one, one], [one, less]), [0, 0])
            self.assertEqual(alike(kind, 1, [less, one], [one, one]), [0, 0])
            # a nought beside a number
            self.assertEqual(alike(kind, 1, [sign, less], [one, one]), [0, less])

    def test_infinite(self):
        for kind in FLOATING:
            one, sign, inf = ONE[kind], SIGN[kind], INF[kind]
            self.assertEqual(alike(kind, 1, [inf], [one + sign]), [0, inf + sign])
            self.assertEqual(alike(kind, 1, [inf + sign], [inf + sign]), [0, inf])
            self.assertEqual(alike(kind, 1, [inf, inf], [one, one]), [0, inf])
            self.assertEqual(alike(kind, 1, [inf, GREATEST[kind]], [one, one + sign]), [0, inf])
            self.assertEqual(alike(kind, 1, [one, inf + sign], [one, one]), [0, inf + sign])


class Nones(unittest.TestCase):
    def test_one_form(self):
        for kind in FLOATING:
            one, none, inf = ONE[kind], NONE[kind], INF[kind]
            for other in other_nones(kind) + [none]:
                with self.subTest(kind=kind, other=other):
                    self.assertEqual(alike(kind, 1, [other], [one]), [0, none])
                    self.assertEqual(alike(kind, 1, [one], [other]), [0, none])
                    self.assertEqual(alike(kind, 1, [other], [0]), [0, none])
                    self.assertEqual(alike(kind, 1, [other, inf], [inf, one]), [0, none])
                    # at lag 1: x(0) y(1)
                    self.assertEqual(alike(kind, 2, [one, other], [one, one]), [0, none, one])
                    self.assertEqual(alike(kind, 2, [one, one], [other, one]), [0, none, one])


class Refusals(unittest.TestCase):
    def test_kind(self):
        for kind in (0, 1, 8, 13, 2 ** 64 - 1):
            self.assertEqual(alike(kind, 1, [0], [0]), [-1])
            self.assertEqual(alike(kind, 0, [], []), [-1])
        for kind in FLOATING:
            self.assertEqual(alike(kind, 1, [0], [0]), [0, 0])

    def test_lags(self):
        for kind in FLOATING:
            self.assertEqual(alike(kind, 3, [0] * 3, [0] * 3), [0] * 4)
            self.assertEqual(alike(kind, 4, [0] * 3, [0] * 3), [-1])
            self.assertEqual(alike(kind, 1, [], []), [-1])
            self.assertEqual(alike(kind, 2 ** 64 - 1, [0], [0]), [-1])

    def test_lists_of_different_lengths(self):
        for kind in FLOATING:
            self.assertEqual(alike(kind, 0, [0], []), [-1])
            self.assertEqual(alike(kind, 0, [], [0]), [-1])
            self.assertEqual(alike(kind, 1, [0, 0], [0]), [-1])
            self.assertEqual(alike(kind, 1, [0, 0], [0, 0, 0]), [-1])

    def test_no_cell(self):
        for kind, bound in ((9, 2 ** 16), (10, 2 ** 16), (11, 2 ** 32)):
            self.assertEqual(alike(kind, 1, [0, bound], [0, 0]), [-1])
            self.assertEqual(alike(kind, 0, [0, 0], [bound, 0]), [-1])
            self.assertEqual(alike(kind, 1, [bound - 1], [0]), [0, NONE[kind]])
        self.assertEqual(alike(12, 1, [0], [2 ** 64 - 1]), [0, NONE[12]])

    def test_lengths(self):
        for kind in FLOATING:
            self.assertEqual(alike(kind, 2, [0] * 4096, [0] * 4096), [0, 0, 0])
            self.assertEqual(alike(kind, 0, [0] * 4096, [0] * 4096), [0])
            self.assertEqual(alike(kind, 2, [0] * 4097, [0] * 4097), [-1])
            self.assertEqual(alike(kind, 0, [0] * 4097, [0] * 4097), [-1])


class ByTheWords(unittest.TestCase):
    def test_many(self):
        numbers = Numbers(8)
        for kind in FLOATING:
            for turn in range(120):
                draw = numbers.odd_cell if turn % 4 == 0 else numbers.plain_cell
                n = numbers.below(12)
                x = [draw(kind) for _ in range(n)]
                y = [draw(kind) for _ in range(n)]
                lags = numbers.below(n + 1)
                with self.subTest(kind=kind, lags=lags, x=x, y=y):
                    self.assertEqual(alike(kind, lags, x, y), alike_by_words(kind, lags, x, y))

    def test_pairs(self):
        numbers = Numbers(9)
        for kind in FLOATING:
            for _ in range(300):
                x = [numbers.odd_cell(kind) for _ in range(2)]
                y = [ONE[kind], numbers.odd_cell(kind)]
                with self.subTest(kind=kind, x=x, y=y):
                    self.assertEqual(alike(kind, 2, x, y), alike_by_words(kind, 2, x, y))


class HandedIn(unittest.TestCase):
    def test_not_changed(self):
        for kind in FLOATING:
            x = other_nones(kind) + [ONE[kind], 0]
            y = [ONE[kind], 1] + other_nones(kind)
            before = (list(x), list(y))
            first = alike(kind, 7, x, y)
            self.assertEqual((x, y), before)
            self.assertEqual(alike(kind, 7, x, y), first)

    def test_one_list_handed_in_twice(self):
        for kind in FLOATING:
            x = cells(kind, 1, 2, 3)
            self.assertEqual(alike(kind, 3, x, x), [0] + cells(kind, 14, 8, 3))
            self.assertEqual(x, cells(kind, 1, 2, 3))


if __name__ == "__main__":
    unittest.main()

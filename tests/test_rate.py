"""Call 3, rate. The answers are worked out by hand from the document."""

import unittest

from gridwave.both import filter_of, rate
from words import FLOATING, GREATEST, INF, NONE, ONE, SIGN, WHOLE, Numbers, cell, cells, other_nones, rate_by_words


class Ordinary(unittest.TestCase):
    def check(self, up, down, c, x, y):
        for kind in FLOATING:
            with self.subTest(kind=kind):
                answer = rate(kind, up, down, cells(kind, *c), cells(kind, *x))
                self.assertEqual(answer, [len(y)] + cells(kind, *y))

    def test_one_by_one(self):
        self.check(1, 1, [1, 0.5, -2], [1, 2, 3, 4], [1, 2.5, 2, 1.5])

    def test_up(self):
        # c(0) x(0); c(1) x(0); c(0) x(1) + c(2) x(0); c(1) x(1); c(0) x(2) + c(2) x(1); c(1) x(2)
        self.check(2, 1, [1, 2, 4], [1, 2, 3], [1, 2, 6, 4, 11, 6])

    def test_down(self):
        # 1; 3 + 4 + 4; 5 + 8 + 12
        self.check(1, 2, [1, 2, 4], [1, 2, 3, 4, 5], [1, 11, 25])

    def test_up_above_down(self):
        # at 0, 2, 4, 6, 8: c(0) x(0); c(2) x(0); c(1) x(1); c(0) x(2) + c(3) x(1); c(2) x(2)
        self.check(3, 2, [1, 2, 4, 8], [1, 2, 3], [1, 4, 4, 19, 12])

    def test_down_above_up(self):
        # at 0, 3, 6, 9 of 10: c(0) x(0); c(1) x(1) + c(3) x(0); c(0) x(3) + c(2) x(2); c(1) x(4) + c(3) x(3)
        self.check(2, 3, [1, 2, 4, 8], [1, 2, 3, 4, 5], [1, 12, 16, 42])

    def test_up_and_down_alike_are_not_one_by_one(self):
        # at 0, 2, 4: c(0) and c(2) alone
        self.check(2, 2, [1, 2, 4], [1, 2, 3], [1, 6, 11])

    def test_places_that_meet_no_sample(self):
        # up 3 by one coefficient: noughts between
        self.check(3, 1, [2], [1, 2], [2, 0, 0, 4, 0, 0])

    def test_one_sample(self):
        self.check(1, 1, [3, 5], [2], [6])
        self.check(4, 1, [1, 2], [3], [3, 6, 0, 0])
        self.check(1, 4, [3, 5], [2], [6])

    def test_no_samples(self):
        for kind in FLOATING:
            self.assertEqual(rate(kind, 3, 2, cells(kind, 1, 2), []), [0])
            self.assertEqual(rate(kind, 1, 4096, [], []), [0])

    def test_no_coefficients(self):
        self.check(1, 1, [], [1, 2, 3], [0, 0, 0])
        self.check(3, 2, [], [1, 2, 3], [0, 0, 0, 0, 0])
        for kind in FLOATING:
            self.assertEqual(rate(kind, 1, 2, [], [NONE[kind], SIGN[kind], ONE[kind]]), [2, 0, 0])

    def test_how_many(self):
        # the greatest i has i down below n up
        for n, up, down, count in ((4, 1, 2, 2), (5, 1, 2, 3), (6, 1, 2, 3), (3, 2, 5, 2), (5, 2, 5, 2), (1, 1, 4096, 1),
                                   (1, 4096, 4095, 2), (4096, 1, 4095, 2), (4095, 1, 4095, 1)):
            self.assertEqual(rate(9, up, down, [], [0] * n), [count] + [0] * count)

    def test_cells_as_numbers(self):
        self.assertEqual(rate(9, 2, 1, [0x3C00, 0x3800], [0x4200]), [2, 0x4200, 0x3E00])
        self.assertEqual(rate(10, 2, 1, [0x3F80, 0x3F00], [0x4040]), [2, 0x4040, 0x3FC0])
        self.assertEqual(rate(11, 2, 1, [0x3F800000, 0x3F000000], [0x40400000]), [2, 0x40400000, 0x3FC00000])
        self.assertEqual(rate(12, 2, 1, [0x3FF0000000000000, 0x3FE0000000000000], [0x4008000000000000]),
                         [2, 0x4008000000000000, 0x3FF8000000000000])


class Rounding(unittest.TestCase):
    def test_a_half_goes_to_the_even_multiple(self):
        for kind in FLOATING:
            one = ONE[kind]
            half_last = {9: 2.0 ** -11, 10: 2.0 ** -8, 11: 2.0 ** -24, 12: 2.0 ** -53}[kind]
            for factor, out in ((1, one), (3, one + 2), (5, one + 2), (7, one + 4)):
                c = [one, 0, cell(kind, factor * half_last)]
                self.assertEqual(rate(kind, 2, 1, c, [one, one]), [4, one, 0, out, 0])

    def test_fused_is_rounded_once(self):
        # (1 + 2^-10)^2 - (1 + 2^-9) = 2^-20
        self.assertEqual(rate(9, 1, 1, [0x3C00, 0x3C01], [0x3C01, 0xBC02]), [2, 0x3C01, 0x0010])
        self.assertEqual(rate(10, 1, 1, [0x3F80, 0x3F81], [0x3F81, 0xBF82]), [2, 0x3F81, 113 << 7])

    def test_the_order_of_coefficients(self):
        # at 2: 1, then 2^-11 twice, is 1 each time; the other way about they are 2^-10 first
        self.assertEqual(rate(9, 1, 1, [0x3C00, 0x1000, 0x1000], [0x3C00] * 3)[3], 0x3C00)
        self.assertEqual(rate(9, 1, 1, [0x1000, 0x1000, 0x3C00], [0x3C00] * 3)[3], 0x3C01)

    def test_below_the_whole_fractions(self):
        for kind in FLOATING:
            half, sign = cell(kind, 0.5), SIGN[kind]
            self.assertEqual(rate(kind, 1, 1, [half], [1, 2, 3, 5, 7]), [5, 0, 1, 2, 2, 4])
            self.assertEqual(rate(kind, 1, 1, [half], [WHOLE[kind]]), [1, WHOLE[kind] // 2])
            # the opposite of half the least is the nought with the sign
            self.assertEqual(rate(kind, 1, 1, [half], [1 + sign]), [1, sign])

    def test_too_great(self):
        for kind in FLOATING:
            top, sign, two = GREATEST[kind], SIGN[kind], cell(kind, 2)
            self.assertEqual(rate(kind, 1, 1, [two], [top, top + sign]), [2, INF[kind], INF[kind] + sign])


class Others(unittest.TestCase):
    def test_noughts(self):
        for kind in FLOATING:
            one, sign, half = ONE[kind], SIGN[kind], cell(kind, 0.5)
            self.assertEqual(rate(kind, 1, 1, [one], [sign]), [1, 0])
            # s is the nought with the sign; one more of them keeps it, the other doesn't
            self.assertEqual(rate(kind, 1, 1, [half + sign, one], [sign, 1])[2], sign)
            self.assertEqual(rate(kind, 1, 1, [half + sign, one], [0, 1])[2], 0)

    def test_infinite(self):
        for kind in FLOATING:
            one, sign, inf, none = ONE[kind], SIGN[kind], INF[kind], NONE[kind]
            self.assertEqual(rate(kind, 1, 1, [one, one], [inf, one]), [2, inf, inf])
            self.assertEqual(rate(kind, 1, 1, [one, one + sign], [inf, inf]), [2, inf, none])
            self.assertEqual(rate(kind, 1, 1, [0], [inf + sign]), [1, none])
            # where a place meets no sample, nothing is multiplied
            self.assertEqual(rate(kind, 2, 1, [one, 0, inf], [one]), [2, one, 0])

    def test_one_form(self):
        for kind in FLOATING:
            one, none = ONE[kind], NONE[kind]
            for other in other_nones(kind) + [none]:
                self.assertEqual(rate(kind, 1, 1, [one], [other]), [1, none])
                self.assertEqual(rate(kind, 1, 1, [other], [one]), [1, none])
                self.assertEqual(rate(kind, 2, 1, [one, other], [one, other]), [4, one, none, none, none])


class Refusals(unittest.TestCase):
    def test_kind(self):
        for kind in (0, 1, 8, 13, 2 ** 64 - 1):
            self.assertEqual(rate(kind, 1, 1, [0], [0]), [-1])
            self.assertEqual(rate(kind, 1, 1, [], []), [-1])

    def test_up_and_down(self):
        for kind in FLOATING:
            self.assertEqual(rate(kind, 0, 1, [0], [0]), [-1])
            self.assertEqual(rate(kind, 1, 0, [0], [0]), [-1])
            self.assertEqual(rate(kind, 0, 0, [], []), [-1])
            self.assertEqual(rate(kind, 4096, 1, [0], [0]), [4096] + [0] * 4096)
            self.assertEqual(rate(kind, 1, 4096, [0], [0]), [1, 0])
            self.assertEqual(rate(kind, 4097, 4096, [0], [0]), [-1])
            self.assertEqual(rate(kind, 4096, 4097, [0], [0]), [-1])
            self.assertEqual(rate(kind, 4097, 1, [], []), [-1])
            self.assertEqual(rate(kind, 1, 2 ** 64 - 1, [], []), [-1])

    def test_samples_out(self):
        for kind in FLOATING:
            self.assertEqual(rate(kind, 256, 1, [], [0] * 16), [4096] + [0] * 4096)
            # 17 times 241 is 4,097; 3 times 2731 is 2 times 4,096 and 1
            self.assertEqual(rate(kind, 241, 1, [], [0] * 17), [-1])
            self.assertEqual(rate(kind, 3, 2, [], [0] * 2731), [-1])
            self.assertEqual(rate(kind, 3, 2, [], [0] * 2730), [4095] + [0] * 4095)
            self.assertEqual(rate(kind, 4096, 1, [], [0] * 2), [-1])

    def test_no_cell(self):
        for kind, bound in ((9, 2 ** 16), (10, 2 ** 16), (11, 2 ** 32)):
            self.assertEqual(rate(kind, 1, 1, [0, bound], [0]), [-1])
            self.assertEqual(rate(kind, 1, 1, [bound], []), [-1])
            self.assertEqual(rate(kind, 1, 1, [0], [bound, 0]), [-1])
            self.assertEqual(rate(kind, 1, 1, [], [bound]), [-1])
            self.assertEqual(rate(kind, 1, 1, [bound - 1], [0]), [1, NONE[kind]])
        self.assertEqual(rate(12, 1, 1, [2 ** 64 - 1], [0]), [1, NONE[12]])

    def test_lengths(self):
        for kind in FLOATING:
            self.assertEqual(rate(kind, 1, 1, [0], [0] * 4096), [4096] + [0] * 4096)
            self.assertEqual(rate(kind, 1, 2, [0], [0] * 4097), [-1])
            self.assertEqual(rate(kind, 1, 1, [0] * 256, [0]), [1, 0])
            self.assertEqual(rate(kind, 1, 1, [0] * 257, [0]), [-1])
            self.assertEqual(rate(kind, 1, 1, [0] * 257, []), [-1])


class ByTheWords(unittest.TestCase):
    def test_many(self):
        numbers = Numbers(6)
        for kind in FLOATING:
            for turn in range(120):
                draw = numbers.odd_cell if turn % 3 == 0 else numbers.plain_cell
                c = [draw(kind) for _ in range(numbers.below(9))]
                x = [draw(kind) for _ in range(numbers.below(6))]
                up, down = 1 + numbers.below(5), 1 + numbers.below(5)
                with self.subTest(kind=kind, up=up, down=down, c=c, x=x):
                    self.assertEqual(rate(kind, up, down, c, x), rate_by_words(kind, up, down, c, x))

    def test_one_by_one_is_filtered(self):
        numbers = Numbers(7)
        for kind in FLOATING:
            c = [numbers.plain_cell(kind) for _ in range(5)]
            x = [numbers.plain_cell(kind) for _ in range(20)]
            self.assertEqual(rate(kind, 1, 1, c, x)[1:], filter_of(kind, 0, x, c)[1:])
            # each third of them
            self.assertEqual(rate(kind, 1, 3, c, x)[1:], filter_of(kind, 0, x, c)[1::3])


class HandedIn(unittest.TestCase):
    def test_not_changed(self):
        for kind in FLOATING:
            c = [ONE[kind]] + other_nones(kind)
            x = other_nones(kind) + [ONE[kind]]
            before = (list(c), list(x))
            first = rate(kind, 3, 2, c, x)
            self.assertEqual((c, x), before)
            self.assertEqual(rate(kind, 3, 2, c, x), first)


if __name__ == "__main__":
    unittest.main()

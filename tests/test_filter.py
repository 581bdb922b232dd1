"""Call 1, filter: gridwave.both.filter_of. The answers are worked out by hand from the document."""

import unittest

from gridwave.both import filter_of
from words import FLOATING, GREATEST, INF, NONE, ONE, SIGN, WHOLE, Numbers, cell, cells, filter_by_words, other_nones


class Ordinary(unittest.TestCase):
    def check(self, edge, x, c, y):
        for kind in FLOATING:
            with self.subTest(kind=kind):
                self.assertEqual(filter_of(kind, edge, cells(kind, *x), cells(kind, *c)), [0] + cells(kind, *y))

    def test_left_out(self):
        # 1; 2 + 1/2; 3 + 1 - 2; 4 + 3/2 - 4
        self.check(0, [1, 2, 3, 4], [1, 0.5, -2], [1, 2.5, 2, 1.5])

    def test_nearest_end(self):
        # x(-1) and x(-2) are 1: 1 + 1/2 - 2; 2 + 1/2 - 2
        self.check(1, [1, 2, 3, 4], [1, 0.5, -2], [-0.5, 0.5, 2, 1.5])

    def test_round_about(self):
        # x(-1) is 4, x(-2) is 3: 1 + 2 - 6; 2 + 1/2 - 8
        self.check(2, [1, 2, 3, 4], [1, 0.5, -2], [-3, -5.5, 2, 1.5])

    def test_mirrored(self):
        # x(-1) is 2, x(-2) is 3: 1 + 1 - 6; 2 + 1/2 - 4
        self.check(3, [1, 2, 3, 4], [1, 0.5, -2], [-4, -1.5, 2, 1.5])

    def test_cells_as_numbers(self):
        # 3 times 1/2, with the cells written out
        self.assertEqual(filter_of(9, 0, [0x4200], [0x3800]), [0, 0x3E00])
        self.assertEqual(filter_of(10, 0, [0x4040], [0x3F00]), [0, 0x3FC0])
        self.assertEqual(filter_of(11, 0, [0x40400000], [0x3F000000]), [0, 0x3FC00000])
        self.assertEqual(filter_of(12, 0, [0x4008000000000000], [0x3FE0000000000000]), [0, 0x3FF8000000000000])


class Edges(unittest.TestCase):
    def check(self, edge, x, c, y):
        for kind in (9, 11, 12):
            with self.subTest(kind=kind):
                self.assertEqual(filter_of(kind, edge, cells(kind, *x), cells(kind, *c)), [0] + cells(kind, *y))

    def test_one_sample(self):
        self.check(0, [3], [1, 4, 16], [3])
        for edge in (1, 2, 3):
            self.check(edge, [3], [1, 4, 16], [63])

    def test_two_samples_and_four_coefficients(self):
        c = [1, 4, 16, 64]
        self.check(0, [1, 2], c, [1, 6])
        self.check(1, [1, 2], c, [85, 86])
        # x(-1), x(-2), x(-3) are 2, 1, 2 by both rules
        self.check(2, [1, 2], c, [153, 102])
        self.check(3, [1, 2], c, [153, 102])

    def test_three_samples_and_five_coefficients(self):
        c = [1, 4, 16, 64, 256]
        self.check(0, [1, 2, 3], c, [1, 6, 27])
        self.check(1, [1, 2, 3], c, [341, 342, 347])
        # x(-1) to x(-4) are 3, 2, 1, 3
        self.check(2, [1, 2, 3], c, [877, 438, 731])
        # x(-1) to x(-4) are 2, 3, 2, 1
        self.check(3, [1, 2, 3], c, [441, 742, 923])

    def test_no_samples(self):
        for kind in FLOATING:
            for edge in range(4):
                self.assertEqual(filter_of(kind, edge, [], cells(kind, 1, 2)), [0])
                self.assertEqual(filter_of(kind, edge, [], []), [0])

    def test_no_coefficients(self):
        for kind in FLOATING:
            for edge in range(4):
                self.assertEqual(filter_of(kind, edge, [ONE[kind], SIGN[kind], NONE[kind]], []), [0, 0, 0, 0])

    def test_a_sample_left_out_is_no_nought(self):
        # infinite times nought would be invalid
        self.assertEqual(filter_of(9, 0, [0x3C00], [0x3C00, 0x7C00]), [0, 0x3C00])


class Rounding(unittest.TestCase):
    def test_a_half_goes_to_the_even_multiple(self):
        # y(1) = 1 + c(1); with u the last place of 1: 1 + u / 2, 1 + 3 u / 2
        for kind in FLOATING:
            one = ONE[kind]
            half_last = {9: 2.0 ** -11, 10: 2.0 ** -8, 11: 2.0 ** -24, 12: 2.0 ** -53}[kind]
            for factor, out in ((1, one), (3, one + 2), (1.5, one + 1), (5, one + 2), (7, one + 4)):
                with self.subTest(kind=kind, factor=factor):
                    c = [one, cell(kind, factor * half_last)]
                    self.assertEqual(filter_of(kind, 0, [one, one], c), [16, one, out])

    def test_fused_is_rounded_once(self):
        # (1 + 2^-10)^2 - (1 + 2^-9) = 2^-20, which is 16 2^-24
        self.assertEqual(filter_of(9, 0, [0x3C01, 0xBC02], [0x3C00, 0x3C01]), [0, 0x3C01, 0x0010])
        # (1 + 2^-7)^2 - (1 + 2^-6) = 2^-14: x is 127 - 14
        self.assertEqual(filter_of(10, 0, [0x3F81, 0xBF82], [0x3F80, 0x3F81]), [0, 0x3F81, 113 << 7])
        # (1 + 2^-23)^2 - (1 + 2^-22) = 2^-46
        self.assertEqual(filter_of(11, 0, [0x3F800001, 0xBF800002], [0x3F800000, 0x3F800001]),
                         [0, 0x3F800001, (127 - 46) << 23])
        # (1 + 2^-52)^2 - (1 + 2^-51) = 2^-104
        self.assertEqual(filter_of(12, 0, [ONE[12] + 1, SIGN[12] + ONE[12] + 2], [ONE[12], ONE[12] + 1]),
                         [0, ONE[12] + 1, (1023 - 104) << 52])

    def test_each_step_is_rounded(self):
        # 1 + 2^-11 is 1 each time; added first the two would be 2^-10
        self.assertEqual(filter_of(9, 1, [0x3C00], [0x3C00, 0x1000, 0x1000]), [16, 0x3C00])
        self.assertEqual(filter_of(9, 1, [0x3C00], [0x1000, 0x1000, 0x3C00]), [0, 0x3C01])

    def test_far_apart(self):
        # the least number beside the greatest
        for kind in FLOATING:
            x = [1, GREATEST[kind]]
            self.assertEqual(filter_of(kind, 0, x, [ONE[kind], ONE[kind]]), [16, 1, GREATEST[kind]])


class Flags(unittest.TestCase):
    def test_too_great(self):
        for kind in FLOATING:
            top = GREATEST[kind]
            sign = SIGN[kind]
            two = cell(kind, 2)
            self.assertEqual(filter_of(kind, 0, [top], [two]), [20, INF[kind]])
            self.assertEqual(filter_of(kind, 0, [top + sign], [two]), [20, INF[kind] + sign])
            self.assertEqual(filter_of(kind, 0, [top], [top]), [20, INF[kind]])

    def test_too_great_by_a_half(self):
        # 65504 + 16 is as near to 65536 as to 65504, whose multiple is odd
        self.assertEqual(filter_of(9, 0, cells(9, 16, 65504), cells(9, 1, 1)), [20, cell(9, 16), INF[9]])
        # 65504 + 15 isn't as near
        self.assertEqual(filter_of(9, 0, cells(9, 15, 65504), cells(9, 1, 1)), [16, cell(9, 15), GREATEST[9]])

    def test_too_small(self):
        for kind in FLOATING:
            half = cell(kind, 0.5)
            sign = SIGN[kind]
            self.assertEqual(filter_of(kind, 0, [1], [half]), [24, 0])
            self.assertEqual(filter_of(kind, 0, [1], [half + sign]), [24, sign])
            self.assertEqual(filter_of(kind, 0, [3], [half]), [24, 2])
            self.assertEqual(filter_of(kind, 0, [5], [half]), [24, 2])
            self.assertEqual(filter_of(kind, 0, [5 + sign], [half]), [24, 2 + sign])

    def test_small_and_exact_has_no_flags(self):
        for kind in FLOATING:
            half = cell(kind, 0.5)
            self.assertEqual(filter_of(kind, 0, [2], [half]), [0, 1])
            self.assertEqual(filter_of(kind, 0, [WHOLE[kind]], [half]), [0, WHOLE[kind] // 2])
            self.assertEqual(filter_of(kind, 0, [WHOLE[kind] // 2], [cell(kind, 2)]), [0, WHOLE[kind]])
            self.assertEqual(filter_of(kind, 0, [1, WHOLE[kind] - 1], [ONE[kind]] * 2), [0, 1, WHOLE[kind]])

    def test_rounded_up_to_the_least_with_a_whole_fraction(self):
        # 63 2^-13 times 65 2^-13 is 2^-14 - 2^-26: rounded to a multiple of 2^-25 it is 2^-14, not below
        self.assertEqual(filter_of(9, 0, [cell(9, 63 * 2.0 ** -13)], [cell(9, 65 * 2.0 ** -13)]), [16, WHOLE[9]])
        # 23 2^-12 times 89 2^-13 is 2^-14 - 2^-25, a multiple of 2^-25, and so below
        self.assertEqual(filter_of(9, 0, [cell(9, 23 * 2.0 ** -12)], [cell(9, 89 * 2.0 ** -13)]), [24, WHOLE[9]])
        # (2^12 + 1) 2^-14 times (2^12 - 1) 2^-136 is 2^-126 (1 - 2^-24); rounded to 24 bits it is itself: below
        x = cell(11, (2 ** 12 + 1) * 2.0 ** -14)
        c = cell(11, (2 ** 12 - 1) * 2.0 ** -136)
        self.assertEqual(filter_of(11, 0, [x], [c]), [24, WHOLE[11]])
        # (2^13 + 1) 2^-14 times (2^13 - 1) 2^-138 is 2^-126 (1 - 2^-26): not below
        x = cell(11, (2 ** 13 + 1) * 2.0 ** -14)
        c = cell(11, (2 ** 13 - 1) * 2.0 ** -138)
        self.assertEqual(filter_of(11, 0, [x], [c]), [16, WHOLE[11]])

    def test_invalid(self):
        for kind in FLOATING:
            one, sign, inf, none = ONE[kind], SIGN[kind], INF[kind], NONE[kind]
            self.assertEqual(filter_of(kind, 0, [inf], [0]), [1, none])
            self.assertEqual(filter_of(kind, 0, [sign], [inf]), [1, none])
            # infinite less infinite
            self.assertEqual(filter_of(kind, 0, [inf, inf], [one, one + sign]), [1, inf, none])

    def test_sums_of_flags(self):
        for kind in FLOATING:
            one, inf, none, half, two = ONE[kind], INF[kind], NONE[kind], cell(kind, 0.5), cell(kind, 2)
            top = GREATEST[kind]
            half_top = top - WHOLE[kind]
            # each flag once, however often it comes
            self.assertEqual(filter_of(kind, 0, [1, 3, inf], [half]), [24, 0, 2, inf])
            self.assertEqual(filter_of(kind, 0, [top, top], [two]), [20, inf, inf])
            # the last of these: 2 + 0 times infinite
            self.assertEqual(filter_of(kind, 0, [top, inf, one], [two, 0]), [21, inf, inf, none])
            self.assertEqual(filter_of(kind, 0, [1, inf, one], [half, 0]), [25, 0, inf, none])
            # half the least; half the greatest and twice the least; twice the greatest
            self.assertEqual(filter_of(kind, 0, [1, top, 0], [half, two]), [28, 0, half_top, inf])
            self.assertEqual(filter_of(kind, 0, [1, top, 0, inf, 0, 0], [half, two, 0]),
                             [29, 0, half_top, inf, inf, inf, none])
            # 1 + 1 / 2 of its last place, then 0 times infinite
            last = {9: 2.0 ** -11, 10: 2.0 ** -8, 11: 2.0 ** -24, 12: 2.0 ** -53}[kind]
            self.assertEqual(filter_of(kind, 0, [one, one, inf, 0, 0], [one, cell(kind, last), 0]),
                             [17, one, one, inf, inf, none])


class Signs(unittest.TestCase):
    def test_noughts(self):
        for kind in FLOATING:
            one, sign, half = ONE[kind], SIGN[kind], cell(kind, 0.5)
            # s is the nought without the sign at first
            self.assertEqual(filter_of(kind, 0, [sign], [one]), [0, 0])
            self.assertEqual(filter_of(kind, 0, [0], [one + sign]), [0, 0])
            # y(1): the opposite of half the least is the nought with the sign; one more of them keeps it
            self.assertEqual(filter_of(kind, 0, [sign, 1], [half + sign, one]), [24, 0, sign])
            self.assertEqual(filter_of(kind, 0, [0, 1], [half + sign, one]), [24, 0, 0])
            # 1 - 1
            self.assertEqual(filter_of(kind, 0, [one, one], [one, one + sign]), [0, one, 0])

    def test_infinite(self):
        for kind in FLOATING:
            one, sign, inf = ONE[kind], SIGN[kind], INF[kind]
            self.assertEqual(filter_of(kind, 0, [inf, one], [one, one]), [0, inf, inf])
            self.assertEqual(filter_of(kind, 0, [one, one], [one, inf + sign]), [0, one, inf + sign])
            self.assertEqual(filter_of(kind, 0, [inf + sign], [one + sign]), [0, inf])
            self.assertEqual(filter_of(kind, 0, [inf, inf], [one, one]), [0, inf, inf])
            self.assertEqual(filter_of(kind, 0, [inf], [inf + sign]), [0, inf + sign])


class Nones(unittest.TestCase):
    def test_one_form(self):
        for kind in FLOATING:
            one, none = ONE[kind], NONE[kind]
            for other in other_nones(kind) + [none]:
                with self.subTest(kind=kind, other=other):
                    self.assertEqual(filter_of(kind, 0, [other], [one]), [0, none])
                    self.assertEqual(filter_of(kind, 0, [one], [other]), [0, none])
                    self.assertEqual(filter_of(kind, 0, [other, one], [one, one]), [0, none, none])

    def test_none_before_nought_times_infinite(self):
        for kind in FLOATING:
            one, none, inf = ONE[kind], NONE[kind], INF[kind]
            # y(1): s is none, then 0 times infinite: no flag
            self.assertEqual(filter_of(kind, 0, [inf, none], [one, 0]), [0, inf, none])
            # none times 0, none times infinite
            self.assertEqual(filter_of(kind, 0, [none], [0]), [0, none])
            self.assertEqual(filter_of(kind, 0, [inf], [none]), [0, none])
            # invalid once, then none stays none
            self.assertEqual(filter_of(kind, 0, [one, inf], [0, one]), [1, 0, none])


class Refusals(unittest.TestCase):
    def test_kind(self):
        for kind in (0, 1, 8, 13, 2 ** 64 - 1):
            self.assertEqual(filter_of(kind, 0, [0], [0]), [-1])
        for kind in FLOATING:
            self.assertEqual(filter_of(kind, 0, [0], [0]), [0, 0])

    def test_edge(self):
        for kind in FLOATING:
            self.assertEqual(filter_of(kind, 3, [0], [0]), [0, 0])
            self.assertEqual(filter_of(kind, 4, [0], [0]), [-1])
            self.assertEqual(filter_of(kind, 4, [], []), [-1])
            self.assertEqual(filter_of(kind, 2 ** 64 - 1, [0], [0]), [-1])

    def test_no_cell(self):
        for kind, bound in ((9, 2 ** 16), (10, 2 ** 16), (11, 2 ** 32)):
            self.assertEqual(filter_of(kind, 0, [0, bound], [0]), [-1])
            self.assertEqual(filter_of(kind, 0, [0], [0, bound]), [-1])
            self.assertEqual(filter_of(kind, 0, [], [bound]), [-1])
            self.assertEqual(filter_of(kind, 0, [bound], []), [-1])
            self.assertEqual(filter_of(kind, 0, [bound - 1], [0]), [0, NONE[kind]])
        self.assertEqual(filter_of(12, 0, [2 ** 64 - 1], [0]), [0, NONE[12]])

    def test_lengths(self):
        for kind in FLOATING:
            self.assertEqual(filter_of(kind, 0, [0] * 4096, [0]), [0] * 4097)
            self.assertEqual(filter_of(kind, 0, [0] * 4097, [0]), [-1])
            self.assertEqual(filter_of(kind, 0, [0], [0] * 256), [0, 0])
            self.assertEqual(filter_of(kind, 0, [0], [0] * 257), [-1])
            self.assertEqual(filter_of(kind, 0, [], [0] * 257), [-1])


class ByTheWords(unittest.TestCase):
    def test_many(self):
        numbers = Numbers(1)
        for kind in FLOATING:
            for turn in range(120):
                draw = numbers.odd_cell if turn % 3 == 0 else numbers.plain_cell
                x = [draw(kind) for _ in range(numbers.below(7))]
                c = [draw(kind) for _ in range(numbers.below(7))]
                edge = turn % 4
                with self.subTest(kind=kind, edge=edge, x=x, c=c):
                    self.assertEqual(filter_of(kind, edge, x, c), filter_by_words(kind, edge, x, c))

    def test_products(self):
        numbers = Numbers(2)
        for kind in FLOATING:
            for _ in range(400):
                x, c = [numbers.odd_cell(kind)], [numbers.odd_cell(kind)]
                with self.subTest(kind=kind, x=x, c=c):
                    self.assertEqual(filter_of(kind, 0, x, c), filter_by_words(kind, 0, x, c))


class InPieces(unittest.TestCase):
    """Point 1: in pieces, with c's length less one samples before them (edge 0), it comes out as whole."""

    def check(self, kind, x, c, cuts):
        out = []
        for start, end in zip([0] + cuts, cuts + [len(x)]):
            before = min(start, max(len(c) - 1, 0))
            piece = filter_of(kind, 0, x[start - before:end], c)
            self.assertEqual(len(piece), 1 + before + end - start)
            out += piece[1 + before:]
        self.assertEqual(out, filter_of(kind, 0, x, c)[1:])

    def test_one_cut_at_each_place(self):
        numbers = Numbers(3)
        for kind in FLOATING:
            for count in (0, 1, 2, 5, 13, 20):
                x = [numbers.plain_cell(kind) for _ in range(13)]
                c = [numbers.plain_cell(kind) for _ in range(count)]
                for cut in range(14):
                    with self.subTest(kind=kind, count=count, cut=cut):
                        self.check(kind, x, c, [cut])

    def test_pieces_of_one_length(self):
        numbers = Numbers(4)
        for kind in FLOATING:
            x = [numbers.plain_cell(kind) for _ in range(40)]
            c = [numbers.plain_cell(kind) for _ in range(6)]
            for length in (1, 2, 3, 5, 6, 7, 16, 39, 40):
                with self.subTest(kind=kind, length=length):
                    self.check(kind, x, c, list(range(length, 40, length)))

    def test_uneven_pieces_and_odd_cells(self):
        numbers = Numbers(5)
        for kind in FLOATING:
            for turn in range(20):
                x = [numbers.odd_cell(kind) for _ in range(30)]
                c = [numbers.odd_cell(kind) for _ in range(1 + numbers.below(8))]
                cuts = [place for place in range(31) if numbers.below(4) == 0]
                with self.subTest(kind=kind, x=x, c=c, cuts=cuts):
                    self.check(kind, x, c, cuts)


class HandedIn(unittest.TestCase):
    def test_not_changed(self):
        for kind in FLOATING:
            x = other_nones(kind) + [ONE[kind], 0]
            c = [ONE[kind], other_nones(kind)[0]]
            for edge in range(4):
                x_before, c_before = list(x), list(c)
                first = filter_of(kind, edge, x, c)
                self.assertEqual((x, c), (x_before, c_before))
                self.assertEqual(filter_of(kind, edge, x, c), first)


if __name__ == "__main__":
    unittest.main()

"""Call 2, back. The answers are worked out by hand from the document."""

import unittest

from gridwave.both import back
from words import FLOATING, GREATEST, INF, NONE, ONE, SIGN, WHOLE, Numbers, back_by_words, cell, cells, other_nones

FIRST = [2, 1, 3, 0.5, -1]
SECOND = [1, -1, 0.5, 0, 1]


class Ordinary(unittest.TestCase):
    def check(self, c, state, x, behind, y):
        for kind in FLOATING:
            with self.subTest(kind=kind):
                answer = back(kind, cells(kind, *c), cells(kind, *state), cells(kind, *x))
                self.assertEqual(answer, [0] + cells(kind, *behind) + cells(kind, *y))

    def test_one_section(self):
        # x 1: y = 2 + 1 = 3, p = 1 + 4 - 1.5 = 3.5, q = 3 + 3 = 6
        self.check(FIRST, [1, 4], [1], [3.5, 6], [3])
        # x 2: y = 4 + 3.5 = 7.5, p = 2 + 6 - 3.75 = 4.25, q = 6 + 7.5 = 13.5
        self.check(FIRST, [1, 4], [1, 2], [4.25, 13.5], [3, 7.5])
        # x -1: y = -2 + 4.25 = 2.25, p = -1 + 13.5 - 1.125 = 11.375, q = -3 + 2.25 = -0.75
        self.check(FIRST, [1, 4], [1, 2, -1], [11.375, -0.75], [3, 7.5, 2.25])

    def test_states_of_nought(self):
        # x 1: y = 2, p = 1 - 1 = 0, q = 3 + 2 = 5; x 1: y = 2, p = 1 + 5 - 1 = 5, q = 5
        self.check(FIRST, [0, 0], [1, 1], [5, 5], [2, 2])

    def test_two_sections(self):
        # the second's x are 3, 7.5, 2.25; its y 3, 6.5, -6.75; its p -1, -9, -5; its q -1.5, -2.75, 7.875
        self.check(FIRST + SECOND, [1, 4, 0, 2], [1, 2, -1], [11.375, -0.75, -5, 7.875], [3, 6.5, -6.75])

    def test_the_sections_order(self):
        # x 1 through SECOND: y = 1, p = -1 + 2 = 1, q = 0.5 - 1 = -0.5
        # x 1 through FIRST: y = 3, p = 1 + 4 - 1.5 = 3.5, q = 3 + 3 = 6
        self.check(SECOND + FIRST, [0, 2, 1, 4], [1], [1, -0.5, 3.5, 6], [3])

    def test_three_sections(self):
        # each doubles, and keeps nothing
        self.check([2, 0, 0, 0, 0] * 3, [0] * 6, [1, -3], [0] * 6, [8, -24])

    def test_no_sections(self):
        self.check([], [], [1, 2, -3], [], [1, 2, -3])
        for kind in FLOATING:
            self.assertEqual(back(kind, [], [], []), [0])
            odd = [INF[kind], SIGN[kind] + INF[kind], SIGN[kind], 1, WHOLE[kind] - 1]
            self.assertEqual(back(kind, [], [], odd), [0] + odd)

    def test_no_samples(self):
        self.check(FIRST + SECOND, [1, 4, 0, 2], [], [1, 4, 0, 2], [])

    def test_cells_as_numbers(self):
        # half of 3; b1 and b2 put 3 and 6 into the states, less a y of 0
        self.assertEqual(back(9, [0x3800, 0x3C00, 0x4000, 0, 0], [0, 0], [0x4200]), [0, 0x4200, 0x4600, 0x3E00])
        self.assertEqual(back(10, [0x3F00, 0x3F80, 0x4000, 0, 0], [0, 0], [0x4040]), [0, 0x4040, 0x40C0, 0x3FC0])


class Rounding(unittest.TestCase):
    def test_b2_x_is_rounded_by_itself(self):
        # with v = 1 + 2^-10: b2 x = v^2 is 1 + 2^-9; less a2 y = v^2 exactly it is -2^-20
        self.assertEqual(back(9, [0x3C00, 0, 0, 0, 0x3C01], [0, 0], [0x3C01]), [16, 0, 0xBC02, 0x3C01])
        self.assertEqual(back(9, [0x3C00, 0, 0x3C01, 0, 0x3C01], [0, 0], [0x3C01]), [16, 0, 0x8010, 0x3C01])
        # with v = 1 + 2^-7: v^2 - (1 + 2^-6) = 2^-14
        self.assertEqual(back(10, [0x3F80, 0, 0x3F81, 0, 0x3F81], [0, 0], [0x3F81]),
                         [16, 0, 0x8000 + (113 << 7), 0x3F81])

    def test_the_others_are_fused(self):
        # v^2 - (1 + 2^-9) = 2^-20 = 16 2^-24: into y by p, into p by q
        self.assertEqual(back(9, [0x3C01, 0, 0, 0, 0], [0xBC02, 0], [0x3C01]), [0, 0, 0, 0x0010])
        self.assertEqual(back(9, [0, 0x3C01, 0, 0, 0], [0, 0xBC02], [0x3C01]), [0, 0x0010, 0, 0])
        # y = v; p = 1 + 2^-9, then less v^2
        self.assertEqual(back(9, [0x3C00, 0, 0, 0x3C01, 0], [0, 0x3C02], [0x3C01]), [0, 0x8010, 0, 0x3C01])

    def test_a_half_goes_to_the_even_multiple(self):
        for kind in FLOATING:
            one = ONE[kind]
            half_last = {9: 2.0 ** -11, 10: 2.0 ** -8, 11: 2.0 ** -24, 12: 2.0 ** -53}[kind]
            for factor, out in ((1, one), (3, one + 2), (5, one + 2), (7, one + 4)):
                state = [cell(kind, factor * half_last), 0]
                self.assertEqual(back(kind, [one, 0, 0, 0, 0], state, [one]), [16, 0, 0, out])

    def test_below_the_whole_fractions(self):
        for kind in FLOATING:
            one, half, sign = ONE[kind], cell(kind, 0.5), SIGN[kind]
            # y: half of 3 and 5 least numbers; p half of 2, q half of 6 of them
            self.assertEqual(back(kind, [half, 0, 0, 0, 0], [0, 0], [3, 5]), [24, 0, 0, 2, 2])
            self.assertEqual(back(kind, [one, half, 0, 0, 0], [0, 0], [2]), [0, 1, 0, 2])
            self.assertEqual(back(kind, [one, 0, half, 0, 0], [0, 0], [6]), [0, 0, 3, 6])
            # b2 x = half the least with the sign is the nought with it, and stays so less 0 y
            self.assertEqual(back(kind, [one, 0, half + sign, 0, 0], [0, 0], [1]), [24, 0, sign, 1])


class Flags(unittest.TestCase):
    def test_too_great(self):
        for kind in FLOATING:
            one, two, inf, sign, top = ONE[kind], cell(kind, 2), INF[kind], SIGN[kind], GREATEST[kind]
            self.assertEqual(back(kind, [two, 0, 0, one, one], [0, 0], [top]), [20, inf + sign, inf + sign, inf])
            # by b1 and by b2
            self.assertEqual(back(kind, [one, two, 0, 0, 0], [0, 0], [top]), [20, inf, 0, top])
            self.assertEqual(back(kind, [one, 0, two, 0, 0], [0, 0], [top + sign]), [20, 0, inf + sign, top + sign])
            # less a1 y and less a2 y
            self.assertEqual(back(kind, [one, 0, 0, two, 0], [0, 0], [top]), [20, inf + sign, 0, top])
            self.assertEqual(back(kind, [one, 0, 0, 0, two], [0, 0], [top]), [20, 0, inf + sign, top])

    def test_invalid(self):
        for kind in FLOATING:
            one, inf, sign, none = ONE[kind], INF[kind], SIGN[kind], NONE[kind]
            less = one + sign
            # y: 0 times infinite; then all is none without more
            self.assertEqual(back(kind, [0, one, one, one, one], [0, 0], [inf]), [1, none, none, none])
            # b2 x alone: p is -infinite both times
            self.assertEqual(back(kind, [one, less, 0, one, one], [0, 0], [inf]), [1, inf + sign, none, inf])
            # p: infinite less infinite; q: 1 times infinite less -1 times infinite
            self.assertEqual(back(kind, [one, one, one, one, less], [0, 0], [inf]), [1, none, inf, inf])
            # y: infinite and a p of the other sign; then all is none
            self.assertEqual(back(kind, [one, 0, 0, 0, 0], [inf + sign, 0], [inf]), [1, none, none, none])
            # with p none 0 times infinite has no flag in y, nor in what comes of it
            self.assertEqual(back(kind, [0, one, one, one, one], [none, 0], [inf]), [0, none, none, none])

    def test_sums_of_flags(self):
        for kind in FLOATING:
            one, half, two, inf, none = ONE[kind], cell(kind, 0.5), cell(kind, 2), INF[kind], NONE[kind]
            top = GREATEST[kind]
            half_top = top - WHOLE[kind]
            # y is infinite, and less 0 y invalid
            self.assertEqual(back(kind, [two, 0, 0, 0, 0], [0, 0], [top]), [21, none, none, inf])
            # half the least; then 0 times infinite
            self.assertEqual(back(kind, [half, 0, 0, one, one], [0, 0], [1, inf]), [25, none, none, 0, inf])
            # half the least; then y = half the greatest and 2 least numbers, p = twice the greatest
            self.assertEqual(back(kind, [half, two, 0, 0, 0], [0, 0], [1, top]), [28, inf, 0, 0, half_top])
            self.assertEqual(back(kind, [half, two, 0, 0, 0], [0, 0], [1, top, inf]),
                             [29, none, none, 0, half_top, inf])
            # 1 and half its last place; then 0 times infinite
            last = {9: 2.0 ** -11, 10: 2.0 ** -8, 11: 2.0 ** -24, 12: 2.0 ** -53}[kind]
            self.assertEqual(back(kind, [one, 0, 0, 0, 0], [cell(kind, last), 0], [one, inf]),
                             [17, none, none, one, inf])


class Signs(unittest.TestCase):
    def test_noughts(self):
        for kind in FLOATING:
            one, sign = ONE[kind], SIGN[kind]
            # p: -0 times 1 and -0 is -0; less 0 times 1, which is -0, it stays; q likewise
            self.assertEqual(back(kind, [one, sign, sign, 0, 0], [0, sign], [one]), [0, sign, sign, one])
            # less -0 times 1 is 0 and -0: 0
            self.assertEqual(back(kind, [one, sign, sign, sign, sign], [0, sign], [one]), [0, 0, 0, one])
            # b1 x is 0: q's sign is lost; b2 x is -0, so is the rest
            self.assertEqual(back(kind, [one, 0, sign, 0, 0], [0, sign], [one]), [0, 0, sign, one])
            # b2 x: -0 times -1 is 0, 0 times -1 is -0; less -0 times -1, which is -0, it stays
            less = one + sign
            self.assertEqual(back(kind, [one, one, sign, 0, sign], [0, 0], [less]), [0, less, 0, less])
            self.assertEqual(back(kind, [one, one, 0, 0, sign], [0, 0], [less]), [0, less, sign, less])
            # y = -0 times 1 and -0; y = -0 times 1 and 0
            self.assertEqual(back(kind, [sign, one, one, 0, 0], [sign, 0], [one]), [0, one, one, sign])
            self.assertEqual(back(kind, [sign, one, one, 0, 0], [0, 0], [one]), [0, one, one, 0])

    def test_infinite(self):
        for kind in FLOATING:
            one, sign, inf, none = ONE[kind], SIGN[kind], INF[kind], NONE[kind]
            # y = infinite; less 0 y is invalid
            self.assertEqual(back(kind, [one, one, one, 0, 0], [inf, inf + sign], [one]), [1, none, none, inf])
            # y = infinite; p = -infinite less infinite; q = 1 less infinite
            self.assertEqual(back(kind, [one, one, one, one, one], [inf, inf + sign], [one]),
                             [0, inf + sign, inf + sign, inf])
            # y = -infinite, less a y is infinite
            self.assertEqual(back(kind, [one, 0, 0, one, one], [inf + sign, 0], [one]), [0, inf, inf, inf + sign])


class Nones(unittest.TestCase):
    def test_one_form(self):
        for kind in FLOATING:
            one, none = ONE[kind], NONE[kind]
            plain = [one, one, one, one, one]
            for other in other_nones(kind) + [none]:
                with self.subTest(kind=kind, other=other):
                    self.assertEqual(back(kind, [], [], [other, one]), [0, none, one])
                    self.assertEqual(back(kind, plain, [other, other], []), [0, none, none])
                    self.assertEqual(back(kind, plain, [0, 0], [other]), [0, none, none, none])
                    # p none: y is, and what comes of y
                    self.assertEqual(back(kind, plain, [other, 0], [one]), [0, none, none, none])
                    # q none: p is; y = 1 and q = 1 - 1 aren't
                    self.assertEqual(back(kind, plain, [0, other], [one]), [0, none, 0, one])

    def test_each_coefficient(self):
        for kind in FLOATING:
            one, none = ONE[kind], NONE[kind]
            # with 1 for each: y = 1, p = 1 - 1, q = 1 - 1
            answers = ([0, none, none, none], [0, none, 0, one], [0, 0, none, one], [0, none, 0, one],
                       [0, 0, none, one])
            for other in other_nones(kind) + [none]:
                for place, answer in enumerate(answers):
                    c = [one] * 5
                    c[place] = other
                    with self.subTest(kind=kind, other=other, place=place):
                        self.assertEqual(back(kind, c, [0, 0], [one]), answer)

    def test_a1_and_a2(self):
        for kind in FLOATING:
            one, none = ONE[kind], NONE[kind]
            for other in other_nones(kind) + [none]:
                # y = 1 first, then p is none, and so is the next y
                c = [one, 0, 0, other, other]
                self.assertEqual(back(kind, c, [0, 0], [one, one]), [0, none, none, one, none])


class Refusals(unittest.TestCase):
    def test_kind(self):
        for kind in (0, 1, 8, 13, 2 ** 64 - 1):
            self.assertEqual(back(kind, [0] * 5, [0] * 2, [0]), [-1])
            self.assertEqual(back(kind, [], [], []), [-1])

    def test_no_cell(self):
        for kind, bound in ((9, 2 ** 16), (10, 2 ** 16), (11, 2 ** 32)):
            for place in range(5):
                c = [0] * 5
                c[place] = bound
                self.assertEqual(back(kind, c, [0, 0], [0]), [-1])
            self.assertEqual(back(kind, [0] * 5, [bound, 0], [0]), [-1])
            self.assertEqual(back(kind, [0] * 5, [0, bound], []), [-1])
            self.assertEqual(back(kind, [0] * 5, [0, 0], [0, bound]), [-1])
            self.assertEqual(back(kind, [], [], [bound]), [-1])
            self.assertEqual(back(kind, [], [], [bound - 1]), [0, NONE[kind]])
        self.assertEqual(back(12, [], [], [2 ** 64 - 1]), [0, NONE[12]])

    def test_lengths(self):
        for kind in FLOATING:
            self.assertEqual(back(kind, [], [], [0] * 4096), [0] * 4097)
            self.assertEqual(back(kind, [], [], [0] * 4097), [-1])
            for many in (1, 4, 6, 9, 11):
                self.assertEqual(back(kind, [0] * many, [0] * 2, [0]), [-1])
            for many in (0, 1, 3, 4):
                self.assertEqual(back(kind, [0] * 5, [0] * many, [0]), [-1])
            self.assertEqual(back(kind, [], [0, 0], [0]), [-1])
            self.assertEqual(back(kind, [0] * 10, [0, 0], [0]), [-1])

    def test_sections(self):
        for kind in FLOATING:
            # 16 sections, with all of nought
            self.assertEqual(back(kind, [0] * 80, [0] * 32, [0]), [0] * 34)
            self.assertEqual(back(kind, [0] * 85, [0] * 34, [0]), [-1])
            self.assertEqual(back(kind, [0] * 85, [0] * 34, []), [-1])
            self.assertEqual(back(kind, [0] * 300, [0] * 60, []), [-1])


class ByTheWords(unittest.TestCase):
    def test_many(self):
        numbers = Numbers(4)
        for kind in FLOATING:
            for turn in range(100):
                draw = numbers.odd_cell if turn % 3 == 0 else numbers.plain_cell
                sections = numbers.below(4)
                c = [draw(kind) for _ in range(5 * sections)]
                state = [draw(kind) for _ in range(2 * sections)]
                x = [draw(kind) for _ in range(numbers.below(6))]
                with self.subTest(kind=kind, c=c, state=state, x=x):
                    self.assertEqual(back(kind, c, state, x), back_by_words(kind, c, state, x))

    def test_in_pieces_as_whole(self):
        numbers = Numbers(5)
        for kind in FLOATING:
            c = [numbers.plain_cell(kind) for _ in range(10)]
            state = [numbers.plain_cell(kind) for _ in range(4)]
            x = [numbers.plain_cell(kind) for _ in range(12)]
            whole = back(kind, c, state, x)
            first = back(kind, c, state, x[:5])
            second = back(kind, c, first[1:5], x[5:])
            self.assertEqual([first[0] | second[0]] + second[1:5] + first[5:] + second[5:], whole)


class HandedIn(unittest.TestCase):
    def test_not_changed(self):
        for kind in FLOATING:
            others = other_nones(kind)
            c = cells(kind, *FIRST) + [others[0]] * 5
            state = [ONE[kind], others[1], 0, others[2]]
            x = cells(kind, 1, 2) + others
            before = (list(c), list(state), list(x))
            first = back(kind, c, state, x)
            self.assertEqual((c, state, x), before)
            self.assertEqual(back(kind, c, state, x), first)


if __name__ == "__main__":
    unittest.main()

"""The document's words, put down once more and slowly over fractions, for the tests to hold
the program against; and the tests that all calls with a picture share. Nothing here comes from the program."""

import struct
from fractions import Fraction

FLOATING = (9, 10, 11, 12)
KINDS = tuple(range(1, 13))
BITS = {1: 8, 2: 16, 3: 32, 4: 64, 5: 8, 6: 16, 7: 32, 8: 64, 9: 16, 10: 16, 11: 32, 12: 64}
FORMS = {9: (5, 10), 10: (8, 7), 11: (8, 23), 12: (11, 52)}

# Of each floating kind, written out by hand.
ONE = {9: 0x3C00, 10: 0x3F80, 11: 0x3F800000, 12: 0x3FF0000000000000}
SIGN = {9: 0x8000, 10: 0x8000, 11: 0x80000000, 12: 0x8000000000000000}
INF = {9: 0x7C00, 10: 0x7F80, 11: 0x7F800000, 12: 0x7FF0000000000000}
NONE = {9: 0x7E00, 10: 0x7FC0, 11: 0x7FC00000, 12: 0x7FF8000000000000}
# The greatest number, and the least that has a whole fraction (x 1, f 0).
GREATEST = {9: 0x7BFF, 10: 0x7F7F, 11: 0x7F7FFFFF, 12: 0x7FEFFFFFFFFFFFFF}
WHOLE = {9: 0x0400, 10: 0x0080, 11: 0x00800000, 12: 0x0010000000000000}


def other_nones(kind):
    """Cells that are none, in other forms than the one form."""
    return [INF[kind] + 1, INF[kind] + SIGN[kind] + 1, NONE[kind] + SIGN[kind], 2 * SIGN[kind] - 1, SIGN[kind] - 1]


def cell(kind, number):
    """The cell of a number that the kind holds exactly, by Python's own packing."""
    if kind < 9:
        return number % 2 ** BITS[kind]
    if kind == 9:
        return struct.unpack("<H", struct.pack("<e", number))[0]
    if kind == 12:
        return struct.unpack("<Q", struct.pack("<d", number))[0]
    single = struct.unpack("<I", struct.pack("<f", number))[0]
    return single if kind == 11 else single >> 16


def cells(kind, *numbers):
    return [cell(kind, number) for number in numbers]


def pair(kind, cell_):
    """('none', 0), ('infinite', sign), or (Fraction, sign)."""
    e, m = FORMS[kind]
    sign = cell_ >> (e + m)
    x = (cell_ >> m) % 2 ** e
    f = cell_ % 2 ** m
    if x == 2 ** e - 1:
        return ("infinite", sign) if f == 0 else ("none", 0)
    if x == 0:
        size = f * Fraction(2) ** (2 - 2 ** (e - 1) - m)
    else:
        size = (2 ** m + f) * Fraction(2) ** (x + 1 - 2 ** (e - 1) - m)
    return (-size if sign else size, sign)


def nearest_multiple(size, unit):
    return round(size / unit) * unit


def power_below(size):
    p = size.numerator.bit_length() - size.denominator.bit_length()
    while Fraction(2) ** p > size:
        p -= 1
    while Fraction(2) ** (p + 1) <= size:
        p += 1
    return p


def rounded(kind, q):
    """The cell of a number that is not 0, and its flags."""
    e, m = FORMS[kind]
    sign = SIGN[kind] if q < 0 else 0
    size = abs(q)
    p = power_below(size)
    least = 2 - 2 ** (e - 1)
    r = nearest_multiple(size, Fraction(2) ** (max(p, least) - m))
    if r >= 2 ** (2 ** (e - 1)):
        return sign + INF[kind], 20
    flags = 0
    if r != size:
        flags = 16
        if nearest_multiple(size, Fraction(2) ** (p - m)) < Fraction(2) ** least:
            flags = 24
    if r < Fraction(2) ** least:
        return sign + int(r / Fraction(2) ** (least - m)), flags
    top = power_below(r)
    x = top - 1 + 2 ** (e - 1)
    f = int(r / Fraction(2) ** (top - m)) - 2 ** m
    return sign + (x << m) + f, flags


def told(kind, value, sign):
    """The cell of a pair that is not to be rounded, or of a nought."""
    if value == "none":
        return NONE[kind]
    if value == "infinite":
        return INF[kind] + sign * SIGN[kind]
    return sign * SIGN[kind]


def sum_of_pairs(kind, a, b):
    if "none" in (a[0], b[0]):
        return NONE[kind], 0
    if a[0] == "infinite" and b[0] == "infinite":
        return (told(kind, *a), 0) if a[1] == b[1] else (NONE[kind], 1)
    for one in (a, b):
        if one[0] == "infinite":
            return told(kind, *one), 0
    exact = a[0] + b[0]
    if exact == 0:
        return (SIGN[kind] if a[0] == 0 and a[1] == 1 and b[1] == 1 else 0), 0
    return rounded(kind, exact)


def product_of_pairs(a, b):
    """The exact product as a pair, or None where it is invalid."""
    if "none" in (a[0], b[0]):
        return ("none", 0)
    sign = a[1] ^ b[1]
    if "infinite" in (a[0], b[0]):
        return None if 0 in (a[0], b[0]) else ("infinite", sign)
    return (a[0] * b[0], sign)


def plus(kind, a, b):
    return sum_of_pairs(kind, pair(kind, a), pair(kind, b))


def times(kind, a, b):
    product = product_of_pairs(pair(kind, a), pair(kind, b))
    if product is None:
        return NONE[kind], 1
    if product[0] in ("none", "infinite", 0):
        return told(kind, *product), 0
    return rounded(kind, product[0])


def fused(kind, a, b, c):
    product = product_of_pairs(pair(kind, a), pair(kind, b))
    third = pair(kind, c)
    if product is None:
        return NONE[kind], (0 if third[0] == "none" else 1)
    return sum_of_pairs(kind, product, third)


def at_edge(edge, x, i):
    """The cell that stands at place i, None if it is left out."""
    n = len(x)
    if 0 <= i < n:
        return x[i]
    if edge == 0:
        return None
    if edge == 1:
        return x[0] if i < 0 else x[n - 1]
    if edge == 2:
        return x[i % n]
    if n == 1:
        return x[0]
    d = i % (2 * (n - 1))
    return x[2 * (n - 1) - d] if d > n - 1 else x[d]


def filter_by_words(kind, edge, x, c):
    flags = 0
    out = []
    for i in range(len(x)):
        s = 0
        for j in range(len(c)):
            sample = at_edge(edge, x, i - j)
            if sample is not None:
                s, more = fused(kind, c[j], sample, s)
                flags |= more
        out.append(s)
    return [flags] + out


def other_sign(kind, a):
    return a if pair(kind, a)[0] == "none" else a ^ SIGN[kind]


def one_form(kind, a):
    return NONE[kind] if pair(kind, a)[0] == "none" else a


def back_by_words(kind, c, state, x):
    flags = [0]
    state = [one_form(kind, a) for a in state]

    def noted(answer):
        flags[0] |= answer[1]
        return answer[0]

    out = []
    for sample in x:
        y = one_form(kind, sample)
        for k in range(len(c) // 5):
            b0, b1, b2, a1, a2 = c[5 * k:5 * k + 5]
            p, q = state[2 * k:2 * k + 2]
            x_in = y
            y = noted(fused(kind, b0, x_in, p))
            p = noted(fused(kind, b1, x_in, q))
            p = noted(fused(kind, other_sign(kind, a1), y, p))
            q = noted(times(kind, b2, x_in))
            q = noted(fused(kind, other_sign(kind, a2), y, q))
            state[2 * k:2 * k + 2] = [p, q]
        out.append(y)
    return flags + state + out


def rate_by_words(kind, up, down, c, x):
    out = []
    i = 0
    while i * down < len(x) * up:
        s = 0
        for j in range(len(c)):
            ahead = i * down - j
            if ahead >= 0 and ahead % up == 0 and ahead // up < len(x):
                s = fused(kind, c[j], x[ahead // up], s)[0]
        out.append(s)
        i += 1
    return [len(out)] + out


def by_halves(kind, row):
    if not row:
        return 0, 0
    if len(row) == 1:
        return row[0], 0
    first = 1
    while 2 * first < len(row):
        first *= 2
    a, a_flags = by_halves(kind, row[:first])
    b, b_flags = by_halves(kind, row[first:])
    out, flags = plus(kind, a, b)
    return out, flags | a_flags | b_flags


def alike_by_words(kind, lags, x, y):
    flags = 0
    out = []
    for lag in range(lags):
        row = []
        for i in range(len(x) - lag):
            product, more = times(kind, x[i], y[i + lag])
            row.append(product)
            flags |= more
        total, more = by_halves(kind, row)
        flags |= more
        out.append(total)
    return [flags] + out


def whole(kind, a):
    return a - 2 ** BITS[kind] if kind <= 4 and a >= 2 ** (BITS[kind] - 1) else a


def order(kind, a):
    """What a cell is sorted by."""
    if kind < 9:
        return (0, whole(kind, a), 0)
    value, sign = pair(kind, a)
    if value == "none":
        return (3, 0, 0)
    if value == "infinite":
        return (0 if sign else 2, 0, 0)
    return (1, value, 1 - sign)


def compare(kind, a, b):
    """'less', 'same', 'more' by value, or None."""
    a, b = order(kind, a)[:2], order(kind, b)[:2]
    if kind >= 9 and 3 in (a[0], b[0]):
        return None
    return "same" if a == b else ("less" if a < b else "more")


def median_by_words(kind, edge, r, x):
    out = []
    for i in range(len(x)):
        near = [at_edge(edge, x, i + d) for d in range(-r, r + 1)]
        near = sorted((a for a in near if a is not None), key=lambda a: order(kind, a))
        a = near[(len(near) - 1) // 2]
        out.append(a if kind < 9 else one_form(kind, a))
    return [0] + out


def peaks_by_words(kind, x):
    out = []
    for i in range(1, len(x)):
        others = [j for j in range(i + 1, len(x)) if compare(kind, x[j], x[i]) != "same"]
        if compare(kind, x[i - 1], x[i]) == "less" and others and compare(kind, x[others[0]], x[i]) == "less":
            out.append(i)
    return [len(out)] + out


def window_by_words(kind, sort, n):
    flags = 0
    out = []
    for i in range(n):
        d = Fraction(2 * i + 1 - n, n)
        u = Fraction(2 * i + 1, 2 * n)
        q = (1 - abs(d), 1 - d ** 2, 4 * u * (1 - u))[sort]
        a, more = (0, 0) if q == 0 else rounded(kind, q)
        flags |= more
        out.append(a)
    return [flags] + out


def each_place(w, h, answer):
    """0, then answer(x, y) of each place of a picture, row by row."""
    return [0] + [answer(x, y) for y in range(h) for x in range(w)]


def cells_within(w, h, rx, ry, picture, x, y):
    """The cells within rx to the sides and ry up and down, those beyond left out."""
    return [picture[b * w + a] for b in range(h) for a in range(w) if abs(a - x) <= rx and abs(b - y) <= ry]


def sums_by_words(w, h, picture):
    return each_place(w, h, lambda x, y: sum(picture[b * w + a] for b in range(y + 1) for a in range(x + 1)))


def box_by_words(w, h, r, picture):
    def mean(x, y):
        near = cells_within(w, h, r, r, picture, x, y)
        return (2 * sum(near) + len(near)) // (2 * len(near))

    return each_place(w, h, mean)


def at(w, h, picture, x, y):
    """The byte at (x, y), beyond the edge the nearest cell's."""
    return picture[min(max(y, 0), h - 1) * w + min(max(x, 0), w - 1)]


def square_by_words(w, h, m, shift, add, k, picture):
    half = (m - 1) // 2

    def byte(x, y):
        s = 0
        for b in range(m):
            for a in range(m):
                s += k[b * m + a] * at(w, h, picture, x + a - half, y + b - half)
        if shift != 0:
            s += 2 ** (shift - 1)
        return sorted((0, s // 2 ** shift + add, 255))[1]

    return each_place(w, h, byte)


def shape_by_words(w, h, op, rx, ry, picture):
    return each_place(w, h, lambda x, y: (min, max)[op](cells_within(w, h, rx, ry, picture, x, y)))


def middle_by_words(w, h, picture):
    def fifth(x, y):
        return sorted(at(w, h, picture, a, b) for b in (y - 1, y, y + 1) for a in (x - 1, x, x + 1))[4]

    return each_place(w, h, fifth)


def edges_by_words(w, h, picture):
    def size(x, y):
        def three(places):
            first, second, third = (at(w, h, picture, x + a, y + b) for a, b in places)
            return first + 2 * second + third

        gx = three(((1, -1), (1, 0), (1, 1))) - three(((-1, -1), (-1, 0), (-1, 1)))
        gy = three(((-1, 1), (0, 1), (1, 1))) - three(((-1, -1), (0, -1), (1, -1)))
        return min(abs(gx) + abs(gy), 255)

    return each_place(w, h, size)


def scale_by_words(w, h, v, u, picture):
    def between(i, side, new):
        a = min(max(Fraction((2 * i + 1) * side - new, 2 * new), 0), side - 1)
        first = int(a)
        return first, min(first + 1, side - 1), a - first

    def byte(i, j):
        x0, x1, f = between(i, w, v)
        y0, y1, g = between(j, h, u)
        exact = (1 - f) * (1 - g) * picture[y0 * w + x0] + f * (1 - g) * picture[y0 * w + x1]
        exact += (1 - f) * g * picture[y1 * w + x0] + f * g * picture[y1 * w + x1]
        return (exact + Fraction(1, 2)).__floor__()

    return each_place(v, u, byte)


def match_by_words(w, h, v, u, picture, block):
    best = None
    for y in range(h):
        for x in range(w):
            if x + v <= w and y + u <= h:
                size = sum(abs(picture[(y + b) * w + x + a] - block[b * v + a]) for b in range(u) for a in range(v))
                if best is None or size < best[2]:
                    best = [x, y, size]
    return [0] + best


def side_by_side(w, h, t, picture):
    """The pairs of places whose cells are at least t and share a side."""
    pairs = []
    for y in range(h):
        for x in range(w):
            if x + 1 < w:
                pairs.append((y * w + x, y * w + x + 1))
            if y + 1 < h:
                pairs.append((y * w + x, (y + 1) * w + x))
    return [(a, b) for a, b in pairs if picture[a] >= t and picture[b] >= t]


def regions_by_words(w, h, t, picture):
    """Each cell bears the first place that it goes together with, found by going over all pairs again and again."""
    first = list(range(w * h))
    pairs = side_by_side(w, h, t, picture)
    before = None
    while before != first:
        before = list(first)
        for a, b in pairs:
            first[a] = first[b] = min(first[a], first[b])
    firsts = sorted({first[place] for place in range(w * h) if picture[place] >= t})
    numbers = [firsts.index(first[place]) + 1 if picture[place] >= t else 0 for place in range(w * h)]
    return [len(firsts)] + numbers


def turn_by_words(w, h, how, picture):
    cells_at = {(x, y): picture[y * w + x] for y in range(h) for x in range(w)}
    if how in (4, 5, 6, 7):
        cells_at = {(y, x): byte for (x, y), byte in cells_at.items()}
        w, h = h, w
    if how in (1, 3, 5, 7):
        cells_at = {(w - 1 - x, y): byte for (x, y), byte in cells_at.items()}
    if how in (2, 3, 6, 7):
        cells_at = {(x, h - 1 - y): byte for (x, y), byte in cells_at.items()}
    return each_place(w, h, lambda x, y: cells_at[x, y])


class Numbers:
    """Numbers that look thrown but are the same each time."""

    def __init__(self, seed):
        self.state = seed

    def below(self, bound):
        self.state = (self.state * 6364136223846793005 + 1442695040888963407) % 2 ** 64
        return (self.state >> 20) % bound

    def odd_cell(self, kind):
        """A cell of a floating kind: often one at an edge of what the kind holds."""
        special = [0, 1, 2, 3, WHOLE[kind] - 1, WHOLE[kind], WHOLE[kind] + 1, ONE[kind] - 1, ONE[kind],
                   ONE[kind] + 1, GREATEST[kind] - 1, GREATEST[kind], INF[kind], NONE[kind], INF[kind] + 1]
        sign = self.below(2) * SIGN[kind]
        chance = self.below(10)
        if chance < 3:
            return sign + special[self.below(len(special))]
        if chance < 5:
            return self.below(2 ** BITS[kind])
        return sign + self.near_one(kind)

    def near_one(self, kind):
        """A cell without the sign whose number isn't far from 1."""
        m = FORMS[kind][1]
        return ONE[kind] + ((self.below(7) - 3) << m) + self.below(2 ** m) * self.below(2)

    def plain_cell(self, kind):
        """A number not far from 1, with either sign, so that much comes out rounded."""
        return self.below(2) * SIGN[kind] + self.near_one(kind)

    def picture(self, w, h):
        """The bytes of a picture: of all sizes, or of a few, or mostly at the ends."""
        chance = self.below(3)
        if chance == 0:
            return [self.below(256) for _ in range(w * h)]
        if chance == 1:
            return [self.below(4) for _ in range(w * h)]
        return [(0, 255, 128, 254)[self.below(4)] for _ in range(w * h)]


class PictureTests:
    """What every call that takes a picture refuses of it, as tests; call(w, h, x) is to be given."""

    GREAT = 2 ** 64 - 1

    def length(self, w, h):
        """How many numbers are answered; a call that answers other than one a cell has its own."""
        return 1 + w * h

    def refused(self, w, h, picture):
        before = list(picture)
        self.assertEqual(self.call(w, h, picture), [-1])
        self.assertEqual(picture, before)

    def taken(self, w, h, picture):
        before = list(picture)
        answer = self.call(w, h, picture)
        self.assertNotEqual(answer[0], -1)
        self.assertEqual(len(answer), self.length(w, h))
        self.assertEqual(picture, before)
        # what is answered is the caller's own, and the next time it's as if for the first time
        kept = list(answer)
        answer[0] = 99
        answer.append(99)
        self.assertEqual(picture, before)
        self.assertEqual(self.call(w, h, picture), kept)

    def test_sides(self):
        for w, h in ((64, 1), (1, 64), (64, 64), (0, 64), (64, 0), (0, 0)):
            self.taken(w, h, [7] * (w * h))
        for w, h in ((65, 1), (1, 65), (64, 65), (65, 64), (0, 65), (65, 0), (65, 65)):
            self.refused(w, h, [7] * (w * h))

    def test_very_great_sides(self):
        great = self.GREAT
        for w, h in ((great, great), (great, 0), (0, great), (great, 1), (1, great), (2 ** 32, 2 ** 32), (2 ** 63, 2)):
            self.refused(w, h, [])

    def test_how_many_bytes(self):
        for w, h in ((3, 2), (2, 3), (1, 1), (64, 64)):
            self.taken(w, h, [9] * (w * h))
            self.refused(w, h, [9] * (w * h - 1))
            self.refused(w, h, [9] * (w * h + 1))
            self.refused(w, h, [])
        for w, h in ((0, 0), (0, 1), (1, 0), (64, 0), (0, 64)):
            self.taken(w, h, [])
            self.refused(w, h, [0])

    def test_no_byte(self):
        for place in range(6):
            self.taken(3, 2, [0] * place + [255] + [0] * (5 - place))
            for number in (256, self.GREAT):
                self.refused(3, 2, [0] * place + [number] + [0] * (5 - place))

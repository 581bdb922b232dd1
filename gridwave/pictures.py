"""Pictures of bytes, row by row: sums, boxes, squares, shapes, middles, edges, scales, matches, regions, turns."""

from gridwave.samples import middle_of, with_edges

# The rule of edges by which the nearest one stands beyond.
NEAREST = 1

MOST_BYTE = 255

# What a turn is made of.
LEFT_TO_RIGHT = 1
TOP_TO_BOTTOM = 2
EXCHANGED = 4


def rows_of(w, h, x):
    """The h rows of w numbers."""
    return [x[w * b:w * (b + 1)] for b in range(h)]


def columns_of(w, rows):
    """The w columns of rows of w numbers."""
    columns = []
    for a in range(w):
        columns.append([row[a] for row in rows])
    return columns


def joined(rows):
    """The numbers of the rows, one row behind the other."""
    out = []
    for row in rows:
        out.extend(row)
    return out


def sums_both_ways(w, h, x):
    """At each place the sum of all that are at most as far to the right and at most as far down."""
    above = [0] * w
    out = []
    for row in rows_of(w, h, x):
        total = 0
        sums = []
        for byte, before in zip(row, above):
            total += byte
            sums.append(before + total)
        out.extend(sums)
        above = sums
    return out


def within(row, r, chosen):
    """At each place of a row what is chosen of those within r of it, those beyond left out."""
    return [chosen(row[max(0, i - r):i + r + 1]) for i in range(len(row))]


def within_both_ways(w, h, rx, ry, chosen, x):
    """At each place what is chosen of those within rx to the sides, ry up and down, those beyond left out."""
    rows = [within(row, rx, chosen) for row in rows_of(w, h, x)]
    columns = [within(column, ry, chosen) for column in columns_of(w, rows)]
    return joined(columns_of(h, columns))


def total_of(numbers):
    """The sum of the numbers."""
    return sum(numbers)


def boxed(w, h, r, x):
    """At each place the mean of those within r both ways, a half rounded up."""
    totals = within_both_ways(w, h, r, r, total_of, x)
    counts = within_both_ways(w, h, r, r, total_of, [1] * (w * h))
    return [(2 * s + k) // (2 * k) for s, k in zip(totals, counts)]


def least_of(numbers):
    """The least of the numbers."""
    return min(numbers)


def most_of(numbers):
    """The most of the numbers."""
    return max(numbers)


def shaped(w, h, op, rx, ry, x):
    """At each place the least (op 0) or the most of those within rx to the sides, ry up and down."""
    chosen = least_of if op == 0 else most_of
    return within_both_ways(w, h, rx, ry, chosen, x)


def all_around(w, h, r, x):
    """At each place those within r both ways, row by row, the nearest ones for those beyond."""
    rows = with_edges(NEAREST, rows_of(w, h, x), r, r)
    rows = [with_edges(NEAREST, row, r, r) for row in rows]
    out = []
    for b in range(h):
        for a in range(w):
            out.append(joined([row[a:a + 2 * r + 1] for row in rows[b:b + 2 * r + 1]]))
    return out


def held(number):
    """The byte that is nearest to the number."""
    return min(max(number, 0), MOST_BYTE)


def by_square(w, h, m, shift, add, k, x):
    """At each place the sum of those around it by m rows of m factors k, less its lowest bits, and add."""
    # 2^(shift - 1), so that a half is rounded up, but nothing where shift is 0.
    half = (1 << shift) >> 1
    out = []
    for around in all_around(w, h, m // 2, x):
        s = sum([factor * byte for factor, byte in zip(k, around)])
        out.append(held(((s + half) >> shift) + add))
    return out


def middles(w, h, x):
    """At each place the middle one of the nine within 1 both ways."""
    return [middle_of(around) for around in all_around(w, h, 1, x)]


def steepness(around):
    """How far apart the sides of nine cells are, right and left, below and above, the middle of a side twice."""
    gx = around[2] + 2 * around[5] + around[8] - around[0] - 2 * around[3] - around[6]
    gy = around[6] + 2 * around[7] + around[8] - around[0] - 2 * around[1] - around[2]
    return abs(gx) + abs(gy)


def edges_of(w, h, x):
    """At each place how steep it is among the nine within 1 both ways."""
    return [held(steepness(around)) for around in all_around(w, h, 1, x)]


def stretched(row, count):
    """The row, not empty, at count places from its first to its last; each number 2 count times, so that it's whole."""
    parts = 2 * count
    last = len(row) - 1
    out = []
    for i in range(count):
        place = min(max((2 * i + 1) * len(row) - count, 0), last * parts)
        before = place // parts
        rest = place % parts
        behind = min(before + 1, last)
        out.append((parts - rest) * row[before] + rest * row[behind])
    return out


def scaled(w, h, v, u, x):
    """The picture scaled to u rows of v, both of them with cells or both without."""
    if v * u == 0:
        return []
    rows = [stretched(row, v) for row in rows_of(w, h, x)]
    columns = [stretched(column, u) for column in columns_of(v, rows)]
    # Rounded here alone, where both ways' parts are in each number.
    parts = 4 * v * u
    return [(2 * s + parts) // (2 * parts) for s in joined(columns_of(u, columns))]


def difference(first, second):
    """The sum of the differences' sizes of numbers that stand at the same places."""
    return sum([abs(a - b) for a, b in zip(first, second)])


def best_match(w, h, v, u, x, y):
    """The place where the block y differs least from what lies there, the first by rows; and how much it differs."""
    rows = rows_of(w, h, x)
    found = []
    for top in range(h - u + 1):
        for left in range(w - v + 1):
            part = joined([row[left:left + v] for row in rows[top:top + u]])
            # In this order the least sum comes first, then the first row, then the first place in it.
            found.append((difference(part, y), top, left))
    least = min(found)
    return [least[2], least[1], least[0]]


def beside(w, h, place):
    """The places at the four sides of a place, but those beyond."""
    places = []
    if place >= w:
        places.append(place - w)
    if place % w > 0:
        places.append(place - 1)
    if place % w < w - 1:
        places.append(place + 1)
    if place < w * (h - 1):
        places.append(place + w)
    return places


def spread(w, h, numbers, first, number):
    """Gives the number to the first cell and to all that go together with it and have none yet."""
    numbers[first] = number
    ahead = [first]
    while ahead:
        place = ahead.pop()
        for near in beside(w, h, place):
            if numbers[near] is None:
                numbers[near] = number
                ahead.append(near)


def regions_of(w, h, t, x):
    """How many regions there are of cells at least t, then each cell's number, 0 where it is in none."""
    numbers = [None if byte >= t else 0 for byte in x]
    count = 0
    for place in range(w * h):
        if numbers[place] is None:
            count += 1
            spread(w, h, numbers, place, count)
    return [count] + numbers


def turned(w, h, how, x):
    """The picture with x and y exchanged, then mirrored left to right, then top to bottom, as far as how says so."""
    rows = rows_of(w, h, x)
    if how & EXCHANGED != 0:
        rows = columns_of(w, rows)
    if how & LEFT_TO_RIGHT != 0:
        rows = [list(reversed(row)) for row in rows]
    if how & TOP_TO_BOTTOM != 0:
        rows = list(reversed(rows))
    return joined(rows)

"""Pictures of bytes, row by row: sums both ways and boxes."""


def rows_of(w, h, x):
    """The h rows of w numbers."""
    return [x[w * b:w * (b + 1)] for b in range(h)]


def columns_of(w, rows):
    """The w columns of rows of w numbers."""
    columns = []
    for a in range(w):
        columns.append([row[a] for row in rows])
    return columns


def sums_both_ways(w, h, x):
    """At each place the sum of all that are at most as far to the right and at most as far down."""
    above = [0] * w
    out = []
    for row in rows_of(w, h, x):
        total = 0
        sums = []
        for byte, before in zip(row, above):
            total += byte
            sums.append(before + total)
        out.extend(sums)
        above = sums
    return out


def within(row, r, chosen):
    """At each place of a row what is chosen of those within r of it, those beyond left out."""
    return [chosen(row[max(0, i - r):i + r + 1]) for i in range(len(row))]


def within_both_ways(w, h, rx, ry, chosen, x):
    """At each place what is chosen of those within rx to the sides, ry up and down, those beyond left out."""
    rows = [within(row, rx, chosen) for row in rows_of(w, h, x)]
    columns = [within(column, ry, chosen) for column in columns_of(w, rows)]
    out = []
    for row in columns_of(h, columns):
        out.extend(row)
    return out


def total_of(numbers):
    """The sum of the numbers."""
    return sum(numbers)


def boxed(w, h, r, x):
    """At each place the mean of those within r both ways, a half rounded up."""
    totals = within_both_ways(w, h, r, r, total_of, x)
    counts = within_both_ways(w, h, r, r, total_of, [1] * (w * h))
    return [(2 * s + k) // (2 * k) for s, k in zip(totals, counts)]

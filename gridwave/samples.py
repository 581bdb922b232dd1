"""Rows of samples: edges, filters forward and back, other rates, likeness, medians, peaks, windows."""

from gridwave.floating import NOUGHT, opposite


def place_of(edge, n, i):
    """The place whose sample stands at place i, of n above 0; None if it is left out."""
    if 0 <= i < n:
        return i
    if edge == 0:
        return None
    if edge == 1:
        return 0 if i < 0 else n - 1
    if edge == 2:
        return i % n
    if n == 1:
        return 0
    around = 2 * (n - 1)
    d = i % around
    return around - d if d > n - 1 else d


def with_edges(edge, x, before, behind):
    """The samples with so many before and behind them by the edge's rule, None for one left out."""
    n = len(x)
    if n == 0:
        return []
    places = [place_of(edge, n, i) for i in range(-before, n + behind)]
    return [None if place is None else x[place] for place in places]


def filtered(work, edge, x, c):
    """The samples filtered by c."""
    before = len(c)
    row = with_edges(edge, x, before, 0)
    out = []
    for i in range(len(x)):
        s = NOUGHT
        for j, factor in enumerate(c):
            sample = row[before + i - j]
            if sample is not None:
                s = work.fused(factor, sample, s)
        out.append(s)
    return out


class Section:
    """One section of a filter back upon itself, with its state."""

    def __init__(self, factors, state):
        self.b0 = factors[0]
        self.b1 = factors[1]
        self.b2 = factors[2]
        self.less_a1 = opposite(factors[3])
        self.less_a2 = opposite(factors[4])
        self.p = state[0]
        self.q = state[1]

    def passed(self, work, x):
        """The sample that comes out for x."""
        y = work.fused(self.b0, x, self.p)
        p = work.fused(self.b1, x, self.q)
        self.p = work.fused(self.less_a1, y, p)
        q = work.times(self.b2, x)
        self.q = work.fused(self.less_a2, y, q)
        return y


def sections_of(c, state):
    """The sections of five coefficients and two cells of state each."""
    count = len(c) // 5
    return [Section(c[5 * k:5 * k + 5], state[2 * k:2 * k + 2]) for k in range(count)]


def filtered_back(work, sections, x):
    """The samples that come out of the sections; their states change."""
    out = []
    for sample in x:
        y = sample
        for section in sections:
            y = section.passed(work, y)
        out.append(y)
    return out


def states_of(sections):
    """The states of the sections, p and q of each."""
    states = []
    for section in sections:
        states.append(section.p)
        states.append(section.q)
    return states


def count_at_rate(up, down, n):
    """How many i from 0 on have i down below n up."""
    return (n * up + down - 1) // down


def at_rate(work, up, down, c, x):
    """The samples at another rate, by c."""
    out = []
    for i in range(count_at_rate(up, down, len(x))):
        ahead = i * down
        s = NOUGHT
        # Only each up-th coefficient meets a sample, and none of them one behind the last.
        for j in range(ahead % up, min(len(c), ahead + 1), up):
            s = work.fused(c[j], x[(ahead - j) // up], s)
        out.append(s)
    return out


def by_halves(work, row):
    """The row's parts added by halves; the nought of none."""
    if not row:
        return NOUGHT
    # Neighbours added, an odd last one kept, and that again: the first 2^k always end up by themselves.
    while len(row) > 1:
        sums = [work.plus(row[k], row[k + 1]) for k in range(0, len(row) - 1, 2)]
        row = sums + row[2 * len(sums):]
    return row[0]


def likeness(work, lag, x, y):
    """How alike x is to y at a lag."""
    products = [work.times(a, b) for a, b in zip(x, y[lag:])]
    return by_halves(work, products)


def middle_of(numbers):
    """The middle one by size, of an even number the lower of both."""
    return sorted(numbers)[(len(numbers) - 1) // 2]


def medians(edge, r, x):
    """Of the numbers within r of each place the middle one."""
    row = with_edges(edge, x, r, r)
    out = []
    for i in range(len(x)):
        near = [number for number in row[i:i + 2 * r + 1] if number is not None]
        out.append(middle_of(near))
    return out


def is_less(a, b):
    """Whether a is less than b; never if one is None."""
    return a is not None and b is not None and a < b


def falls_behind(x, i):
    """Whether the first number behind place i that isn't the same is less."""
    j = i + 1
    while j < len(x) and x[j] == x[i]:
        j += 1
    return j < len(x) and is_less(x[j], x[i])


def peak_places(x):
    """The places of the peaks among numbers, or None for what is none."""
    return [i for i in range(1, len(x)) if is_less(x[i - 1], x[i]) and falls_behind(x, i)]


def window_at(work, sort, n, i):
    """A window of n places at i."""
    d = 2 * i + 1 - n
    # No place is 0, which quotient could not take: d is above -n and below n.
    if sort == 0:
        return work.quotient(n - abs(d), n)
    # Sorts 1 and 2 are one number: d / n is 2 u - 1, so that 4 u (1 - u) is 1 less the square of d / n.
    return work.quotient(n * n - d * d, n * n)

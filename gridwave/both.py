"""The calls: what each refuses, and what it answers."""

from gridwave.floating import Floats
from gridwave.kinds import are_cells, is_floating, is_kind, measure_of, one_form, rank_of
from gridwave.pictures import best_match, boxed, by_square, edges_of, middles, regions_of, scaled, shaped
from gridwave.pictures import sums_both_ways, turned
from gridwave.samples import at_rate, count_at_rate, filtered, filtered_back, sections_of, states_of
from gridwave.samples import likeness, medians, peak_places, window_at

MOST_EDGE = 3
MOST_SAMPLES = 4096
MOST_COEFFICIENTS = 256
MOST_SECTIONS = 16
MOST_RATE = 4096
MOST_RADIUS = 64
MOST_SORT = 2
MOST_PLACES = 4096
MOST_SIDE = 64
MOST_SQUARE = 15
MOST_SHIFT = 31
MOST_ADD = 65536
MOST_OP = 1
MOST_LEVEL = 255
MOST_HOW = 7

# A byte is a cell of this kind.
BYTE = 5


def are_samples(kind, x):
    """Whether x is a list of samples that is not refused."""
    return len(x) <= MOST_SAMPLES and are_cells(kind, x)


def are_coefficients(kind, c):
    """Whether c is a list of coefficients that is not refused."""
    return len(c) <= MOST_COEFFICIENTS and are_cells(kind, c)


def are_sections(kind, c, state):
    """Whether c and state are whole sections that are not refused."""
    count = len(c) // 5
    if count > MOST_SECTIONS or len(c) != 5 * count or len(state) != 2 * count:
        return False
    return are_cells(kind, c) and are_cells(kind, state)


def is_rate(up, down, n):
    """Whether n samples at the rate up by down are not refused."""
    if up < 1 or up > MOST_RATE or down < 1 or down > MOST_RATE:
        return False
    return count_at_rate(up, down, n) <= MOST_SAMPLES


def are_sides(w, h):
    """Whether w and h are sides of a picture that are not refused."""
    return w <= MOST_SIDE and h <= MOST_SIDE


def is_picture(w, h, x):
    """Whether x is a picture of h rows of w bytes that is not refused."""
    return are_sides(w, h) and len(x) == w * h and are_cells(BYTE, x)


def is_square(m, k):
    """Whether k is a square of m rows of m numbers that is not refused."""
    return m % 2 == 1 and m <= MOST_SQUARE and len(k) == m * m


def filter_of(kind, edge, x, c):
    """Call 1, filter: the flags, then the samples filtered by c."""
    if not is_floating(kind) or edge > MOST_EDGE:
        return [-1]
    if not are_samples(kind, x) or not are_coefficients(kind, c):
        return [-1]
    work = Floats(kind)
    out = filtered(work, edge, work.all_parts(x), work.all_parts(c))
    return [work.flags] + work.all_cells(out)


def back(kind, c, state, x):
    """Call 2: the flags, then the states behind, then the samples filtered back by sections."""
    if not is_floating(kind):
        return [-1]
    if not are_samples(kind, x) or not are_sections(kind, c, state):
        return [-1]
    work = Floats(kind)
    sections = sections_of(work.all_parts(c), work.all_parts(state))
    out = filtered_back(work, sections, work.all_parts(x))
    return [work.flags] + work.all_cells(states_of(sections)) + work.all_cells(out)


def rate(kind, up, down, c, x):
    """Call 3: how many samples, then the samples at the rate up by down."""
    if not is_floating(kind):
        return [-1]
    if not are_samples(kind, x) or not are_coefficients(kind, c) or not is_rate(up, down, len(x)):
        return [-1]
    work = Floats(kind)
    out = at_rate(work, up, down, work.all_parts(c), work.all_parts(x))
    return [len(out)] + work.all_cells(out)


def alike(kind, lags, x, y):
    """Call 4: the flags, then how alike x and y are at each lag below lags."""
    if not is_floating(kind) or len(x) != len(y) or lags > len(x):
        return [-1]
    if not are_samples(kind, x) or not are_samples(kind, y):
        return [-1]
    work = Floats(kind)
    first = work.all_parts(x)
    second = work.all_parts(y)
    out = [likeness(work, lag, first, second) for lag in range(lags)]
    return [work.flags] + work.all_cells(out)


def median(kind, edge, r, x):
    """Call 5: 0, then the medians of radius r."""
    if not is_kind(kind) or edge > MOST_EDGE or r > MOST_RADIUS or not are_samples(kind, x):
        return [-1]
    cells = [one_form(kind, cell) for cell in x]
    ranks = [rank_of(kind, cell) for cell in cells]
    # No two cells have one rank, so each rank leads back to its cell.
    cell_at = dict(zip(ranks, cells))
    return [0] + [cell_at[rank] for rank in medians(edge, r, ranks)]


def peaks(kind, x):
    """Call 6: how many peaks, then their places."""
    if not is_kind(kind) or not are_samples(kind, x):
        return [-1]
    places = peak_places([measure_of(kind, cell) for cell in x])
    return [len(places)] + places


def window(kind, sort, n):
    """Call 7: the flags, then a window of n places."""
    if not is_floating(kind) or sort > MOST_SORT or n > MOST_PLACES:
        return [-1]
    work = Floats(kind)
    out = [window_at(work, sort, n, i) for i in range(n)]
    return [work.flags] + work.all_cells(out)


def sums(w, h, x):
    """Call 8: 0, then both ways' sums."""
    if not is_picture(w, h, x):
        return [-1]
    return [0] + sums_both_ways(w, h, x)


def box(w, h, r, x):
    """Call 9: 0, then the picture by a box of radius r."""
    if r > MOST_RADIUS or not is_picture(w, h, x):
        return [-1]
    return [0] + boxed(w, h, r, x)


def square(w, h, m, shift, add, k, x):
    """Call 10: 0, then the picture by a square k of m rows."""
    if not is_square(m, k) or shift > MOST_SHIFT or abs(add) > MOST_ADD or not is_picture(w, h, x):
        return [-1]
    return [0] + by_square(w, h, m, shift, add, k, x)


def shape(w, h, op, rx, ry, x):
    """Call 11: 0, then the least (op 0) or the most (op 1) of a shape."""
    if op > MOST_OP or rx > MOST_RADIUS or ry > MOST_RADIUS or not is_picture(w, h, x):
        return [-1]
    return [0] + shaped(w, h, op, rx, ry, x)


def middle(w, h, x):
    """Call 12: 0, then the middles of nine."""
    if not is_picture(w, h, x):
        return [-1]
    return [0] + middles(w, h, x)


def edges(w, h, x):
    """Call 13: 0, then how steep the picture is at each place."""
    if not is_picture(w, h, x):
        return [-1]
    return [0] + edges_of(w, h, x)


def scale(w, h, v, u, x):
    """Call 14: 0, then the picture scaled to u rows of v."""
    if not is_picture(w, h, x) or not are_sides(v, u) or (v * u == 0) != (w * h == 0):
        return [-1]
    return [0] + scaled(w, h, v, u, x)


def match(w, h, v, u, x, y):
    """Call 15: 0, then where the block y of u rows of v differs least, x and y of that place, and how much."""
    if not is_picture(w, h, x) or not is_picture(v, u, y):
        return [-1]
    if v == 0 or u == 0 or v > w or u > h:
        return [-4]
    return [0] + best_match(w, h, v, u, x, y)


def regions(w, h, t, x):
    """Call 16: how many regions of cells at least t, then each cell's number."""
    if t > MOST_LEVEL or not is_picture(w, h, x):
        return [-1]
    return regions_of(w, h, t, x)


def turn(w, h, how, x):
    """Call 17: 0, then the picture turned."""
    if how > MOST_HOW or not is_picture(w, h, x):
        return [-1]
    return [0] + turned(w, h, how, x)

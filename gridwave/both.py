"""The calls: what each refuses, and what it answers."""

from gridwave.floating import Floats
from gridwave.kinds import are_cells, is_floating
from gridwave.samples import at_rate, count_at_rate, filtered, filtered_back, sections_of, states_of

MOST_EDGE = 3
MOST_SAMPLES = 4096
MOST_COEFFICIENTS = 256
MOST_SECTIONS = 16
MOST_RATE = 4096


def are_samples(kind, x):
    """Whether x is a list of samples that is not refused."""
    return len(x) <= MOST_SAMPLES and are_cells(kind, x)


def are_coefficients(kind, c):
    """Whether c is a list of coefficients that is not refused."""
    return len(c) <= MOST_COEFFICIENTS and are_cells(kind, c)


def are_sections(kind, c, state):
    """Whether c and state are whole sections that are not refused."""
    count = len(c) // 5
    if count > MOST_SECTIONS or len(c) != 5 * count or len(state) != 2 * count:
        return False
    return are_cells(kind, c) and are_cells(kind, state)


def is_rate(up, down, n):
    """Whether n samples at the rate up by down are not refused."""
    if up < 1 or up > MOST_RATE or down < 1 or down > MOST_RATE:
        return False
    return count_at_rate(up, down, n) <= MOST_SAMPLES


def filter_of(kind, edge, x, c):
    """Call 1, filter: the flags, then the samples filtered by c."""
    if not is_floating(kind) or edge > MOST_EDGE:
        return [-1]
    if not are_samples(kind, x) or not are_coefficients(kind, c):
        return [-1]
    work = Floats(kind)
    out = filtered(work, edge, work.all_parts(x), work.all_parts(c))
    return [work.flags] + work.all_cells(out)


def back(kind, c, state, x):
    """Call 2: the flags, then the states behind, then the samples filtered back by sections."""
    if not is_floating(kind):
        return [-1]
    if not are_samples(kind, x) or not are_sections(kind, c, state):
        return [-1]
    work = Floats(kind)
    sections = sections_of(work.all_parts(c), work.all_parts(state))
    out = filtered_back(work, sections, work.all_parts(x))
    return [work.flags] + work.all_cells(states_of(sections)) + work.all_cells(out)


def rate(kind, up, down, c, x):
    """Call 3: how many samples, then the samples at the rate up by down."""
    if not is_floating(kind):
        return [-1]
    if not are_samples(kind, x) or not are_coefficients(kind, c) or not is_rate(up, down, len(x)):
        return [-1]
    work = Floats(kind)
    out = at_rate(work, up, down, work.all_parts(c), work.all_parts(x))
    return [len(out)] + work.all_cells(out)

"""Operations on floating cells, each rounded once.

Between reading and telling, a cell is its parts: a tuple (sort, sign, value, power).
A number is value 2^power; the sign is kept beside the value because a nought's value has none.
"""

from gridwave.kinds import exponent_bits, fraction_bits, infinite_cell, none_cell, sign_bit_of

NUMBER = 0
INFINITE = 1
NONE = 2

NOUGHT = (0, 0, 0, 0)
NOTHING = (2, 0, 0, 0)

INVALID = 1
TOO_GREAT = 4
TOO_SMALL = 8
NOT_EXACT = 16


def nearest(value, drop):
    """How many 2^drop are nearest to value, of two as near the even number; drop is above 0."""
    odd = (value >> drop) & 1
    return (value + (1 << (drop - 1)) - 1 + odd) >> drop


def opposite(parts):
    """The same with the other sign; what is none stays."""
    if parts[0] == NONE:
        return parts
    return (parts[0], 1 - parts[1], -parts[2], parts[3])


def is_nought(parts):
    """Whether it is one of the two noughts."""
    return parts[0] == NUMBER and parts[2] == 0


class Floats:
    """One floating kind's operations, and the flags of all that were done."""

    def __init__(self, kind):
        self.fraction = fraction_bits(kind)
        # Numbers are below 2^limit; those from 2^least on have a whole fraction.
        self.limit = 1 << (exponent_bits(kind) - 1)
        self.least = 2 - self.limit
        self.sign_bit = sign_bit_of(kind)
        self.infinite = infinite_cell(kind)
        self.none = none_cell(kind)
        self.flags = 0

    def parts_of(self, cell):
        """The parts of a cell."""
        sign = 1 if cell & self.sign_bit else 0
        rest = cell & (self.sign_bit - 1)
        if rest > self.infinite:
            return NOTHING
        if rest == self.infinite:
            return (INFINITE, sign, 0, 0)
        exponent = rest >> self.fraction
        size = rest & ((1 << self.fraction) - 1)
        power = self.least - self.fraction
        if exponent > 0:
            size += 1 << self.fraction
            power += exponent - 1
        return (NUMBER, sign, -size if sign else size, power)

    def all_parts(self, cells):
        """The parts of each cell."""
        return [self.parts_of(cell) for cell in cells]

    def cell_of(self, parts):
        """The cell of these parts, in its one form."""
        if parts[0] == NONE:
            return self.none
        sign = self.sign_bit if parts[1] else 0
        if parts[0] == INFINITE:
            return sign + self.infinite
        size = abs(parts[2])
        if size == 0:
            return sign
        top = max(size.bit_length() - 1 + parts[3], self.least)
        shift = parts[3] - (top - self.fraction)
        # Exact both ways: the parts of a number are rounded before they are told.
        size = size << shift if shift >= 0 else size >> -shift
        # A size with its whole one counts the exponent up by one, a size without it leaves 0.
        return sign + ((top - self.least) << self.fraction) + size

    def all_cells(self, row):
        """The cells of a list of parts."""
        return [self.cell_of(parts) for parts in row]

    def invalid(self):
        """What is none, with the flag of an invalid operation."""
        self.flags |= INVALID
        return NOTHING

    def rounded(self, value, power):
        """The number value 2^power, value not 0, rounded to the kind."""
        sign = 1 if value < 0 else 0
        top = value.bit_length() - 1 + power
        unit = (top if top > self.least else self.least) - self.fraction
        drop = unit - power
        if drop > 0:
            kept = nearest(value, drop)
            if kept << drop != value:
                self.note_lost(value, power, top)
            value = kept
            power = unit
        if value.bit_length() + power > self.limit:
            self.flags |= TOO_GREAT | NOT_EXACT
            return (INFINITE, sign, 0, 0)
        return (NUMBER, sign, value, power)

    def note_lost(self, value, power, top):
        """Set the flags of a number value 2^power, of size 2^top or more, that rounding changed."""
        self.flags |= NOT_EXACT
        if top >= self.least:
            return
        # Whether it is too small is asked of the number rounded as if exponents went on below.
        drop = top - self.fraction - power
        if drop > 0:
            value = nearest(value, drop)
            power += drop
        if value.bit_length() - 1 + power < self.least:
            self.flags |= TOO_SMALL

    def quotient(self, value, divisor):
        """The number value / divisor, both above 0, rounded to the kind."""
        shift = self.fraction + 3 + divisor.bit_length()
        scaled = value << shift
        size = 2 * (scaled // divisor)
        # What is left over only has to tell which side of a half the number lies on, and that it isn't exact:
        # one lowest bit does that, for the shift leaves more bits above it than the fraction holds.
        if scaled % divisor:
            size += 1
        return self.rounded(size, -shift - 1)

    def plus(self, a, b):
        """The sum of two; their values may be longer than a cell holds."""
        if a[0] or b[0]:
            return self.plus_odd(a, b)
        gap = a[3] - b[3]
        if gap >= 0:
            value = (a[2] << gap) + b[2]
            power = b[3]
        else:
            value = a[2] + (b[2] << -gap)
            power = a[3]
        if value == 0:
            return (NUMBER, a[1] & b[1], 0, 0)
        return self.rounded(value, power)

    def plus_odd(self, a, b):
        """The sum of two that are not both numbers."""
        if a[0] == NONE or b[0] == NONE:
            return NOTHING
        if a[0] == INFINITE and b[0] == INFINITE and a[1] != b[1]:
            return self.invalid()
        return a if a[0] == INFINITE else b

    def times(self, a, b):
        """The product of two."""
        if a[0] or b[0]:
            return self.times_odd(a, b)
        value = a[2] * b[2]
        if value == 0:
            return (NUMBER, a[1] ^ b[1], 0, 0)
        return self.rounded(value, a[3] + b[3])

    def times_odd(self, a, b):
        """The product of two that are not both numbers."""
        if a[0] == NONE or b[0] == NONE:
            return NOTHING
        if is_nought(a) or is_nought(b):
            return self.invalid()
        return (INFINITE, a[1] ^ b[1], 0, 0)

    def fused(self, a, b, c):
        """The product of a and b as it is exactly, and c, added and rounded once."""
        if c[0] == NONE:
            return NOTHING
        if a[0] or b[0]:
            return self.plus(self.times_odd(a, b), c)
        return self.plus((NUMBER, a[1] ^ b[1], a[2] * b[2], a[3] + b[3]), c)

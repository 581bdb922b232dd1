"""Kinds and their cells: how many bits, which numbers are cells, and how these compare."""

BITS = {1: 8, 2: 16, 3: 32, 4: 64, 5: 8, 6: 16, 7: 32, 8: 64, 9: 16, 10: 16, 11: 32, 12: 64}

# Of each floating kind: how many bits of exponent, how many of fraction.
FORMS = {9: (5, 10), 10: (8, 7), 11: (8, 23), 12: (11, 52)}

# The last kind of whole numbers with sign.
LAST_WITH_SIGN = 4


def is_kind(kind):
    """Whether kind is one of the kinds."""
    return kind in BITS


def is_floating(kind):
    """Whether kind is one of the floating kinds."""
    return kind in FORMS


def are_cells(kind, numbers):
    """Whether each of the numbers is a cell of the kind."""
    bound = 1 << BITS[kind]
    for number in numbers:
        if number < 0 or number >= bound:
            return False
    return True


def exponent_bits(kind):
    """How many bits of exponent a cell of a floating kind has."""
    return FORMS[kind][0]


def fraction_bits(kind):
    """How many bits of fraction a cell of a floating kind has."""
    return FORMS[kind][1]


def sign_bit_of(kind):
    """The highest bit of a cell of the kind."""
    return 1 << (BITS[kind] - 1)


def infinite_cell(kind):
    """The cell of a floating kind that is infinite without the sign."""
    return ((1 << exponent_bits(kind)) - 1) << fraction_bits(kind)


def none_cell(kind):
    """The one form of a cell of a floating kind that is none."""
    return infinite_cell(kind) + (1 << (fraction_bits(kind) - 1))


def is_none(kind, cell):
    """Whether a cell is none; a whole one never is."""
    return is_floating(kind) and cell % sign_bit_of(kind) > infinite_cell(kind)


def one_form(kind, cell):
    """The cell in its one form."""
    return none_cell(kind) if is_none(kind, cell) else cell


def whole_number(kind, cell):
    """The number of a whole cell."""
    sign_bit = sign_bit_of(kind)
    return cell - 2 * sign_bit if kind <= LAST_WITH_SIGN and cell >= sign_bit else cell


def rank_of(kind, cell):
    """A number that stands among those of the kind's other cells as the cell, in its one form, does in their order."""
    if not is_floating(kind):
        return whole_number(kind, cell)
    sign_bit = sign_bit_of(kind)
    # One less below nought, so that the nought with the sign comes before the other; what is none
    # needs no care, for its one form has no sign and is above the infinite cell.
    return sign_bit - cell - 1 if cell >= sign_bit else cell


def measure_of(kind, cell):
    """A number that compares with those of the kind's other cells as the cell does by value, or None."""
    if not is_floating(kind):
        return whole_number(kind, cell)
    if is_none(kind, cell):
        return None
    sign_bit = sign_bit_of(kind)
    return sign_bit - cell if cell >= sign_bit else cell

"""Kinds and their cells: how many bits, and which numbers are cells."""

BITS = {1: 8, 2: 16, 3: 32, 4: 64, 5: 8, 6: 16, 7: 32, 8: 64, 9: 16, 10: 16, 11: 32, 12: 64}

# Of each floating kind: how many bits of exponent, how many of fraction.
FORMS = {9: (5, 10), 10: (8, 7), 11: (8, 23), 12: (11, 52)}


def is_floating(kind):
    """Whether kind is one of the floating kinds."""
    return kind in FORMS


def are_cells(kind, numbers):
    """Whether each of the numbers is a cell of the kind."""
    bound = 1 << BITS[kind]
    for number in numbers:
        if number < 0 or number >= bound:
            return False
    return True


def exponent_bits(kind):
    """How many bits of exponent a cell of a floating kind has."""
    return FORMS[kind][0]


def fraction_bits(kind):
    """How many bits of fraction a cell of a floating kind has."""
    return FORMS[kind][1]

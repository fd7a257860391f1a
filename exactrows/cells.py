"""The kinds: what their cells mean, and how the cells of one kind stand to one another."""

# Of each whole kind: its bits.
SIGNED_KINDS = {1: 8, 2: 16, 3: 32, 4: 64}
UNSIGNED_KINDS = {5: 8, 6: 16, 7: 32, 8: 64}

# Of each floating kind: its bits of exponent, its bits of fraction.
FLOATING_KINDS = {9: (5, 10), 10: (8, 7), 11: (8, 23), 12: (11, 52)}

# The place by value of what's none, 2^64: it lies behind the places of all other cells of all kinds.
NONE_PLACE = 18446744073709551616


class Shape:
    """How the cells of one floating kind are laid out."""

    def __init__(self, exponent_bits, fraction_bits):
        self.fraction_bits = fraction_bits
        self.sign = 1 << (exponent_bits + fraction_bits)
        self.infinite = ((1 << exponent_bits) - 1) << fraction_bits
        self.none = self.infinite + (1 << (fraction_bits - 1))
        # The least ordinary number is 2 to this power.
        self.least_power = 2 - (1 << (exponent_bits - 1))
        # Each number of the kind is a whole multiple of its unit, 2 to the power -unit_depth.
        self.unit_depth = fraction_bits - self.least_power


def is_whole(kind):
    """Whether the kind is one of the whole ones."""
    return kind in SIGNED_KINDS or kind in UNSIGNED_KINDS


def is_floating(kind):
    """Whether the kind is one of the floating ones."""
    return kind in FLOATING_KINDS


def shape_of(kind):
    """The shape of a floating kind."""
    bits = FLOATING_KINDS[kind]
    return Shape(bits[0], bits[1])


def bits_of(kind):
    """How many bits a cell of the kind has."""
    if kind in SIGNED_KINDS:
        return SIGNED_KINDS[kind]
    if kind in UNSIGNED_KINDS:
        return UNSIGNED_KINDS[kind]
    parts = FLOATING_KINDS[kind]
    return 1 + parts[0] + parts[1]


def are_cells(kind, numbers):
    """Whether all the whole numbers are cells of the kind."""
    end = 1 << bits_of(kind)
    return all([0 <= number < end for number in numbers])


def is_number(shape, cell):
    """Whether the cell is neither none nor infinite."""
    return (cell & shape.infinite) != shape.infinite


def all_numbers(shape, row):
    """Whether no cell of the row is none or infinite."""
    return all([is_number(shape, cell) for cell in row])


def number_parts(shape, cell):
    """A small whole number with the cell's sign, and how many bits to the left it makes the cell's number of units."""
    hidden = 1 << shape.fraction_bits
    size = cell & (hidden - 1)
    exponent = (cell & shape.infinite) >> shape.fraction_bits
    if exponent > 0:
        size = hidden + size
    if (cell & shape.sign) != 0:
        size = -size
    return (size, max(exponent - 1, 0))


def units_of(shape, cell):
    """How many of the kind's units the number of a cell is, with its sign."""
    parts = number_parts(shape, cell)
    return parts[0] << parts[1]


def row_units(shape, row):
    """The row's numbers, each counted in the kind's unit."""
    return [units_of(shape, cell) for cell in row]


def one_form(kind, row):
    """The row's cells, each in its one form, in a list of their own."""
    if is_whole(kind):
        return list(row)
    shape = shape_of(kind)
    return [shape.none if size_bits(shape, cell) > shape.infinite else cell for cell in row]


def size_bits(shape, cell):
    """The cell without its sign: of two cells that aren't none, the one further from 0 has the more."""
    return cell & (shape.sign - 1)


def value_places(kind, row):
    """A whole number for each cell, less, the same or more as the cells are by value; what's none behind all."""
    if kind in UNSIGNED_KINDS:
        return list(row)
    if kind in SIGNED_KINDS:
        return signed_numbers(SIGNED_KINDS[kind], row)
    shape = shape_of(kind)
    return [floating_place(shape, cell) for cell in row]


def signed_numbers(bits, row):
    """The numbers of cells of so many bits that have a sign."""
    sign = 1 << (bits - 1)
    return [cell - 2 * sign if cell >= sign else cell for cell in row]


def floating_place(shape, cell):
    """The place by value of one floating cell."""
    size = size_bits(shape, cell)
    if size > shape.infinite:
        return NONE_PLACE
    if (cell & shape.sign) != 0:
        return -size
    return size

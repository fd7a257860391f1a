"""The calls: what rows of cells tell."""

from exactrows.cells import is_cell, is_floating, is_number, rounded, shape_of, units_of

MOST_CELLS = 4096
WRONG_FORM = -1
NOTHING_TO_TELL = -4


def mean(kind, x):
    """The flags and the cell of the mean, or a refusal alone."""
    refused = refusal(kind, [x])
    if refused != 0:
        return [refused]
    shape = shape_of(kind)
    if not all_numbers(shape, x):
        return told_none(shape, 1)
    return rounded_units(shape, sum(row_units(shape, x)), len(x), 1)


def moments(kind, x):
    """The flags of all, then the mean, c2, the sample's variance, c3 and c4, or a refusal alone."""
    refused = refusal(kind, [x])
    if refused != 0:
        return [refused]
    shape = shape_of(kind)
    if not all_numbers(shape, x):
        return told_none(shape, 5)
    n = len(x)
    units = row_units(shape, x)
    total = sum(units)
    # Each cell's distance from the mean, times n: so it stays whole.
    ways = [n * unit - total for unit in units]
    squares = sum([way ** 2 for way in ways])
    cubes = sum([way ** 3 for way in ways])
    fourths = sum([way ** 4 for way in ways])
    return together([
        rounded_units(shape, total, n, 1),
        rounded_units(shape, squares, n ** 3, 2),
        sample_variance(shape, squares, n),
        rounded_units(shape, cubes, n ** 4, 3),
        rounded_units(shape, fourths, n ** 5, 4),
    ])


def weigh(kind, x, w):
    """The flags and the cell of the mean of x weighted by w, or a refusal alone."""
    refused = refusal(kind, [x, w])
    if refused != 0:
        return [refused]
    shape = shape_of(kind)
    if not (all_numbers(shape, x) and all_numbers(shape, w)):
        return told_none(shape, 1)
    weights = row_units(shape, w)
    weight = sum(weights)
    if weight == 0:
        return [NOTHING_TO_TELL]
    products = [a * b for a, b in zip(row_units(shape, x), weights)]
    # The weights' unit stands above and below alike, so one unit is left.
    return rounded_units(shape, sum(products), weight, 1)


def refusal(kind, rows):
    """The first refusal that holds for rows of a floating kind that go together, 0 if none does."""
    if not is_floating(kind):
        return WRONG_FORM
    shape = shape_of(kind)
    for row in rows:
        if len(row) > MOST_CELLS or len(row) != len(rows[0]):
            return WRONG_FORM
        if not all([is_cell(shape, cell) for cell in row]):
            return WRONG_FORM
    if len(rows[0]) == 0:
        return NOTHING_TO_TELL
    return 0


def all_numbers(shape, row):
    """Whether no cell of the row is none or infinite."""
    return all([is_number(shape, cell) for cell in row])


def told_none(shape, many):
    """The answer that tells what's none in place of each of so many numbers."""
    return [0] + [shape.none] * many


def row_units(shape, row):
    """The row's numbers, each counted in the kind's unit."""
    return [units_of(shape, cell) for cell in row]


def rounded_units(shape, above, below, degree):
    """The flags and the cell of above / below times the kind's unit to the degree."""
    return rounded(shape, above, below << (degree * shape.unit_depth))


def sample_variance(shape, squares, n):
    """The flags and the cell of the sample's variance, of n cells' summed squares of n times their distance."""
    if n == 1:
        return [0, shape.none]
    return rounded_units(shape, squares, n ** 2 * (n - 1), 2)


def together(results):
    """One answer of several results: the flags of all, then the cell of each."""
    flags = 0
    for result in results:
        flags = flags | result[0]
    return [flags] + [result[1] for result in results]

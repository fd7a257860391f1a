"""The calls: what rows of cells tell, and places drawn again."""

from exactrows.cells import all_numbers, row_units, shape_of
from exactrows.draws import drawn, shuffled
from exactrows.orders import in_order, most_often, quantile, row_bins, row_ranks
from exactrows.refusals import NOTHING_TO_TELL, again_refusal, bins_refusal, draws_refusal, most_refusal
from exactrows.refusals import numbers_refusal, pairs_refusal, quantile_refusal, row_refusal, rows_refusal
from exactrows.rounding import one_answer, rounded_by_root, rounded_units
from exactrows.together import Numbers, covariance, covariances, joint_spread, line_through, row_pairs


def mean(kind, x):
    """The flags and the cell of the mean, or a refusal alone."""
    without = answer_without_numbers(kind, [x], 1)
    if len(without) > 0:
        return without
    shape = shape_of(kind)
    return rounded_units(shape, sum(row_units(shape, x)), len(x), 1)


def moments(kind, x):
    """The flags of all, then the mean, c2, the sample's variance, c3 and c4, or a refusal alone."""
    without = answer_without_numbers(kind, [x], 5)
    if len(without) > 0:
        return without
    shape = shape_of(kind)
    n = len(x)
    units = row_units(shape, x)
    total = sum(units)
    # Each cell's distance from the mean, times n: so it stays whole.
    ways = [n * unit - total for unit in units]
    squares = sum([way ** 2 for way in ways])
    cubes = sum([way ** 3 for way in ways])
    fourths = sum([way ** 4 for way in ways])
    return one_answer([
        rounded_units(shape, total, n, 1),
        rounded_units(shape, squares, n ** 3, 2),
        sample_variance(shape, squares, n),
        rounded_units(shape, cubes, n ** 4, 3),
        rounded_units(shape, fourths, n ** 5, 4),
    ])


def weigh(kind, x, w):
    """The flags and the cell of the mean of x weighted by w, or a refusal alone."""
    without = answer_without_numbers(kind, [x, w], 1)
    if len(without) > 0:
        return without
    shape = shape_of(kind)
    weights = row_units(shape, w)
    weight = sum(weights)
    if weight == 0:
        return [NOTHING_TO_TELL]
    products = [a * b for a, b in zip(row_units(shape, x), weights)]
    # The weights' unit stands above and below alike, so one unit is left.
    return rounded_units(shape, sum(products), weight, 1)


def quant(kind, x, fractions):
    """The flags of all, then the cell of each fraction's quantile, or a refusal alone."""
    refused = quantile_refusal(kind, x, fractions)
    if refused != 0:
        return [refused]
    shape = shape_of(kind)
    ordered = in_order(kind, x)
    results = [quantile(shape, ordered, fractions[i], fractions[i + 1]) for i in range(0, len(fractions), 2)]
    return one_answer(results)


def sort(kind, x):
    """0, then the cells in order, or a refusal alone."""
    refused = row_refusal(kind, x)
    if refused != 0:
        return [refused]
    return [0] + in_order(kind, x)


def ranks(kind, x):
    """0, then the rank of each cell, or a refusal alone."""
    refused = row_refusal(kind, x)
    if refused != 0:
        return [refused]
    return [0] + row_ranks(kind, x)


def hist(kind, x, edges):
    """0, then how many cells lie in each bin, below, above, and how many are none, or a refusal alone."""
    refused = bins_refusal(kind, x, edges)
    if refused != 0:
        return [refused]
    return [0] + row_bins(kind, x, edges)


def most(kind, x):
    """0, then the cell that comes most often, how often, how many different ones, or a refusal alone."""
    refused = most_refusal(kind, x)
    if refused != 0:
        return [refused]
    return [0] + most_often(kind, x)


def cov(kind, x, y):
    """The flags and the cell of the covariance, or a refusal alone."""
    without = answer_without_numbers(kind, [x, y], 1)
    if len(without) > 0:
        return without
    shape = shape_of(kind)
    return covariance(shape, Numbers(shape, x), Numbers(shape, y))


def covs(kind, rows):
    """The flags of all, then for each row, for each row the covariance's cell, or a refusal alone."""
    refused = rows_refusal(kind, rows)
    if refused != 0:
        return [refused]
    shape = shape_of(kind)
    numbers = [Numbers(shape, row) if all_numbers(shape, row) else None for row in rows]
    return one_answer(covariances(shape, numbers))


def corr(kind, x, y):
    """The flags and the cell of the covariance by the root of both rows' c2, or a refusal alone."""
    without = answer_without_numbers(kind, [x, y], 1)
    if len(without) > 0:
        return without
    shape = shape_of(kind)
    first = Numbers(shape, x)
    second = Numbers(shape, y)
    # The product of both rows' c2, times n to the fourth: n squared stands above and below the fraction bar alike.
    square = joint_spread(first, first) * joint_spread(second, second)
    if square == 0:
        return [NOTHING_TO_TELL]
    return rounded_by_root(shape, joint_spread(first, second), square)


def line(kind, x, y):
    """The flags of both, then the slope and the height of the line, or a refusal alone."""
    without = answer_without_numbers(kind, [x, y], 2)
    if len(without) > 0:
        return without
    shape = shape_of(kind)
    first = Numbers(shape, x)
    spread = joint_spread(first, first)
    if spread == 0:
        return [NOTHING_TO_TELL]
    return one_answer(line_through(shape, first, Numbers(shape, y), spread))


def pairs(kind, x, y):
    """0, then how many pairs are the same way about, the other way, alike, apart, or a refusal alone."""
    refused = pairs_refusal(kind, x, y)
    if refused != 0:
        return [refused]
    return [0] + row_pairs(kind, x, y)


def again(stream, first, n, m, key):
    """0, then m numbers below n, or a refusal alone."""
    refused = again_refusal(n, m, key)
    if refused != 0:
        return [refused]
    return [0] + drawn(key, stream, first, n, m)


def shuffle(stream, first, n, key):
    """0, then the numbers from 0 to n - 1 in an order that is drawn, or a refusal alone."""
    refused = draws_refusal(n, key)
    if refused != 0:
        return [refused]
    return [0] + shuffled(key, stream, first, n)


def answer_without_numbers(kind, rows, many):
    """What is answered where the rows tell no numbers: a refusal, or so many times what's none; empty if they do."""
    refused = numbers_refusal(kind, rows)
    if refused != 0:
        return [refused]
    shape = shape_of(kind)
    if all([all_numbers(shape, row) for row in rows]):
        return []
    return [0] + [shape.none] * many


def sample_variance(shape, squares, n):
    """The flags and the cell of the sample's variance, of n cells' summed squares of n times their distance."""
    if n == 1:
        return [0, shape.none]
    return rounded_units(shape, squares, n ** 2 * (n - 1), 2)

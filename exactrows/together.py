"""What rows tell together: how they spread, each with another or with itself."""

from exactrows.cells import number_parts
from exactrows.rounding import rounded, rounded_units


class Numbers:
    """The numbers of a row that has no other cells, and their sum, counted in the kind's unit."""

    def __init__(self, shape, row):
        self.parts = [number_parts(shape, cell) for cell in row]
        self.total = sum([part[0] << part[1] for part in self.parts])


def joint_spread(x, y):
    """The covariance of two rows of n numbers, times n squared, in units squared: so it stays whole."""
    # To shift the product of two small numbers is far quicker than to multiply two long ones.
    products = [(a[0] * b[0]) << (a[1] + b[1]) for a, b in zip(x.parts, y.parts)]
    return len(products) * sum(products) - x.total * y.total


def covariance(shape, x, y):
    """The flags and the cell of the covariance of two rows of numbers."""
    n = len(x.parts)
    return rounded_units(shape, joint_spread(x, y), n ** 2, 2)


def covariances(shape, rows):
    """For each row, for each row: the flags and the cell of their covariance; None is a row with other cells."""
    many = len(rows)
    results = []
    for i in range(many):
        for j in range(many):
            if j < i:
                # Two rows tell the same whichever comes first.
                results.append(results[j * many + i])
            elif rows[i] is None or rows[j] is None:
                results.append([0, shape.none])
            else:
                results.append(covariance(shape, rows[i], rows[j]))
    return results


def line_through(shape, x, y, spread):
    """The results of the line's slope and of its height; the spread is that of x with itself, and isn't 0."""
    joint = joint_spread(x, y)
    slope = rounded(shape, joint, spread)
    # The height is that of the exact slope, joint / spread.
    height = rounded_units(shape, y.total * spread - joint * x.total, len(x.parts) * spread, 1)
    return [slope, height]

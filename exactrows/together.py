"""What rows tell together: how they spread, each with another or with itself, the line, and pairs of places."""

from exactrows.cells import NONE_PLACE, number_parts, value_places
from exactrows.orders import count_at_most, counted
from exactrows.rounding import rounded, rounded_units


class Numbers:
    """The numbers of a row that has no other cells, and their sum, counted in the kind's unit."""

    def __init__(self, shape, row):
        self.parts = [number_parts(shape, cell) for cell in row]
        self.total = sum([part[0] << part[1] for part in self.parts])


def joint_spread(x, y):
    """The covariance of two rows of n numbers, times n squared, in units squared: so it stays whole."""
    # To shift the product of two small numbers is far quicker than to multiply two long ones.
    products = [(a[0] * b[0]) << (a[1] + b[1]) for a, b in zip(x.parts, y.parts)]
    return len(products) * sum(products) - x.total * y.total


def covariance(shape, x, y):
    """The flags and the cell of the covariance of two rows of numbers."""
    n = len(x.parts)
    return rounded_units(shape, joint_spread(x, y), n ** 2, 2)


def covariances(shape, rows):
    """For each row, for each row: the flags and the cell of their covariance; None is a row with other cells."""
    many = len(rows)
    results = []
    for i in range(many):
        for j in range(many):
            if j < i:
                # Two rows tell the same whichever comes first.
                results.append(results[j * many + i])
            elif rows[i] is None or rows[j] is None:
                results.append([0, shape.none])
            else:
                results.append(covariance(shape, rows[i], rows[j]))
    return results


def line_through(shape, x, y, spread):
    """The results of the line's slope and of its height; the spread is that of x with itself, and isn't 0."""
    joint = joint_spread(x, y)
    slope = rounded(shape, joint, spread)
    # The height is that of the exact slope, joint / spread.
    height = rounded_units(shape, y.total * spread - joint * x.total, len(x.parts) * spread, 1)
    return [slope, height]


def row_pairs(kind, x, y):
    """Of all pairs of places: how many are less the same way about, the other way about, alike, apart."""
    points = [point for point in zip(value_places(kind, x), value_places(kind, y)) if NONE_PLACE not in point]
    compared = pairs_among(len(points))
    apart = pairs_among(len(x)) - compared
    # Those that are equal in x and in y stand in both counts.
    alike = equal_pairs([point[0] for point in points]) + equal_pairs([point[1] for point in points])
    alike = alike - equal_pairs(points)
    # With x in order, and y where x is equal, y falls just where it's less the other way about.
    other = falling_pairs([point[1] for point in sorted(points)])
    return [compared - alike - other, other, alike, apart]


def pairs_among(count):
    """How many pairs there are among so many."""
    return count * (count - 1) // 2


def equal_pairs(values):
    """How many pairs of the values are equal."""
    return sum([pairs_among(count) for count in counted(values).values()])


def falling_pairs(numbers):
    """How many pairs of the numbers have the greater one first."""
    falls = 0
    seen = []
    for number in numbers:
        place = count_at_most(seen, number)
        falls = falls + len(seen) - place
        seen.insert(place, number)
    return falls

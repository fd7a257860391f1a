"""What the order of a row's cells tells: quantiles and ranks."""

from exactrows.cells import is_number, one_form, units_of, value_places
from exactrows.rounding import rounded_units


def in_order(kind, row):
    """The row's cells in order, in their one form."""
    cells = one_form(kind, row)
    # The two noughts alone share a place; the one with the sign comes first, and is the greater whole number.
    ordered = sorted(zip(value_places(kind, cells), [-cell for cell in cells]))
    return [-pair[1] for pair in ordered]


def quantile(shape, ordered, a, b):
    """The flags and the cell of the quantile a / b of cells that are in order and in their one form."""
    reach = (len(ordered) - 1) * a
    low = ordered[reach // b]
    rest = reach % b
    if rest == 0:
        return [0, low]
    high = ordered[reach // b + 1]
    if not (is_number(shape, low) and is_number(shape, high)):
        return [0, between_no_numbers(shape, low, high)]
    start = units_of(shape, low)
    way = units_of(shape, high) - start
    return rounded_units(shape, start * b + way * rest, b, 1)


def between_no_numbers(shape, low, high):
    """The cell told between two neighbours in order that aren't both numbers."""
    if low == shape.none or high == shape.none:
        return shape.none
    if is_number(shape, low):
        return high
    if is_number(shape, high) or low == high:
        return low
    return shape.none


def row_ranks(kind, row):
    """The rank of each cell."""
    places = value_places(kind, row)
    counts = counted(places)
    rank_at = {}
    before = 0
    for place in sorted(counts.keys()):
        rank_at[place] = 2 * before + counts[place] + 1
        before = before + counts[place]
    return [rank_at[place] for place in places]


def counted(numbers):
    """How often each number comes, under the number, in the order in which they came first."""
    counts = {}
    for number in numbers:
        counts[number] = counts.get(number, 0) + 1
    return counts

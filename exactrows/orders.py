"""What the order of a row's cells tells: quantiles, ranks, bins, the cell that comes most often."""

from exactrows.cells import NONE_PLACE, is_number, one_form, units_of, value_places
from exactrows.rounding import rounded_units


def in_order(kind, row):
    """The row's cells in order, in their one form."""
    cells = one_form(kind, row)
    # The two noughts alone share a place; the one with the sign comes first, and is the greater whole number.
    ordered = sorted(zip(value_places(kind, cells), [-cell for cell in cells]))
    return [-pair[1] for pair in ordered]


def quantile(shape, ordered, a, b):
    """The flags and the cell of the quantile a / b of cells that are in order and in their one form."""
    reach = (len(ordered) - 1) * a
    low = ordered[reach // b]
    rest = reach % b
    if rest == 0:
        return [0, low]
    high = ordered[reach // b + 1]
    if not (is_number(shape, low) and is_number(shape, high)):
        return [0, between_no_numbers(shape, low, high)]
    start = units_of(shape, low)
    way = units_of(shape, high) - start
    return rounded_units(shape, start * b + way * rest, b, 1)


def between_no_numbers(shape, low, high):
    """The cell told between two neighbours in order that aren't both numbers."""
    if low == shape.none or high == shape.none:
        return shape.none
    if is_number(shape, low):
        return high
    if is_number(shape, high) or low == high:
        return low
    return shape.none


def row_ranks(kind, row):
    """The rank of each cell."""
    places = value_places(kind, row)
    counts = counted(places)
    rank_at = {}
    before = 0
    for place in sorted(counts.keys()):
        rank_at[place] = 2 * before + counts[place] + 1
        before = before + counts[place]
    return [rank_at[place] for place in places]


def counted(values):
    """How often each value comes, under the value, in the order in which they came first."""
    counts = {}
    for value in values:
        counts[value] = counts.get(value, 0) + 1
    return counts


def are_rising(kind, cells):
    """Whether each cell is less by value than the next."""
    places = value_places(kind, cells)
    # What's none is less than nothing and nothing is less than it, though its place lies behind all.
    if NONE_PLACE in places:
        return False
    return all([places[i] < places[i + 1] for i in range(len(places) - 1)])


def row_bins(kind, row, edges):
    """How many cells lie in each bin, then how many below, above and none; the edges are rising."""
    edge_places = value_places(kind, edges)
    last = len(edges) - 1
    bins = [0] * last
    below = 0
    above = 0
    none = 0
    for place in value_places(kind, row):
        if place == NONE_PLACE:
            none = none + 1
        elif place < edge_places[0]:
            below = below + 1
        elif place > edge_places[last]:
            above = above + 1
        else:
            # The last edge opens no bin of its own: what lies at it belongs to the last bin.
            i = min(count_at_most(edge_places, place), last) - 1
            bins[i] = bins[i] + 1
    return bins + [below, above, none]


def count_at_most(rising, limit):
    """How many of the numbers, which never fall, are at most the limit."""
    low = 0
    high = len(rising)
    while low < high:
        middle = (low + high) // 2
        if rising[middle] <= limit:
            low = middle + 1
        else:
            high = middle
    return low


def most_often(kind, row):
    """The cell that comes most often, how often it comes, and how many different cells there are."""
    ordered = in_order(kind, row)
    counts = counted(ordered)
    best = ordered[0]
    # The cells come in order here, so of those that come as often the first one stays.
    for cell in counts.keys():
        if counts[cell] > counts[best]:
            best = cell
    return [best, counts[best], len(counts)]

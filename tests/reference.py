"""What the calls should answer, worked out by fractions, with none of the program's own code."""

import collections
import struct
from fractions import Fraction

# Of each floating kind: its bits of exponent, its bits of fraction.
BITS = {9: (5, 10), 10: (8, 7), 11: (8, 23), 12: (11, 52)}
KINDS = sorted(BITS)

# Of each kind: the bytes of a cell.
BYTES = {1: 1, 2: 2, 3: 4, 4: 8, 5: 1, 6: 2, 7: 4, 8: 8, 9: 2, 10: 2, 11: 4, 12: 8}
ALL_KINDS = sorted(BYTES)
SIGNED_KINDS = [1, 2, 3, 4]
WHOLE_KINDS = [1, 2, 3, 4, 5, 6, 7, 8]
OTHER_KINDS = [0, 13, 14, 16, 41, 2 ** 16 + 9, 2 ** 32 + 1, 2 ** 32 + 12, 2 ** 63, 2 ** 64 - 1]


def sign_bit(kind):
    e, m = BITS[kind]
    return 2 ** (e + m)


def infinite(kind):
    e, m = BITS[kind]
    return (2 ** e - 1) * 2 ** m


def none(kind):
    return infinite(kind) + 2 ** (BITS[kind][1] - 1)


def greatest(kind):
    """The cell of the greatest number."""
    return infinite(kind) - 1


def least_ordinary(kind):
    """The cell of the least ordinary number."""
    return 2 ** BITS[kind][1]


def unit(kind):
    """The least number above 0."""
    e, m = BITS[kind]
    return Fraction(2) ** (2 - 2 ** (e - 1) - m)


def negative(kind, cell):
    return cell ^ sign_bit(kind)


def size_of(kind, cell):
    """The number of a cell without sign; what's infinite stands for the power of 2 that would come next."""
    e, m = BITS[kind]
    x, f = divmod(cell, 2 ** m)
    if x == 0:
        return f * Fraction(2) ** (2 - 2 ** (e - 1) - m)
    return (2 ** m + f) * Fraction(2) ** (x + 1 - 2 ** (e - 1) - m)


def number(kind, cell):
    if cell >= sign_bit(kind):
        return -size_of(kind, cell - sign_bit(kind))
    return size_of(kind, cell)


def is_number(kind, cell):
    return cell % sign_bit(kind) < infinite(kind)


def cell_at_most(kind, size):
    """The last cell without sign whose number is at most the size, by halving."""
    low, high = 0, infinite(kind)
    while low < high:
        middle = (low + high + 1) // 2
        if size_of(kind, middle) <= size:
            low = middle
        else:
            high = middle - 1
    return low


def rounded(kind, q):
    """The flags and the cell: the nearer one of the two cells that q lies between."""
    q = Fraction(q)
    if q == 0:
        return 0, 0
    sign = sign_bit(kind) if q < 0 else 0
    size = abs(q)
    cell = cell_at_most(kind, size)
    if cell < infinite(kind):
        middle = (size_of(kind, cell) + size_of(kind, cell + 1)) / 2
        # The last bit of a cell is the last bit of the multiple that it stands for.
        if size > middle or (size == middle and cell % 2 == 1):
            cell += 1
    if cell == infinite(kind):
        return 4 + 16, sign + cell
    if size_of(kind, cell) == size:
        return 0, sign + cell
    # From a quarter of a unit below the least ordinary number on, one bit of fraction more rounds up to it.
    small = size < size_of(kind, least_ordinary(kind)) - unit(kind) / 4
    return 16 + (8 if small else 0), sign + cell


def answer(kind, numbers):
    """The list that tells these numbers (None: what's none)."""
    flags = 0
    cells = []
    for q in numbers:
        flag, cell = (0, none(kind)) if q is None else rounded(kind, q)
        flags |= flag
        cells.append(cell)
    return [flags] + cells


def mean(kind, x):
    if not all(is_number(kind, cell) for cell in x):
        return [0, none(kind)]
    return answer(kind, [sum(number(kind, cell) for cell in x) / len(x)])


def moments(kind, x):
    """By the sums of powers of the cells themselves, not of their distances from the mean."""
    if not all(is_number(kind, cell) for cell in x):
        return [0] + [none(kind)] * 5
    n = len(x)
    numbers = [number(kind, cell) for cell in x]
    m, p2, p3, p4 = [sum(q ** k for q in numbers) / n for k in (1, 2, 3, 4)]
    c2 = p2 - m ** 2
    c3 = p3 - 3 * m * p2 + 2 * m ** 3
    c4 = p4 - 4 * m * p3 + 6 * m ** 2 * p2 - 3 * m ** 4
    return answer(kind, [m, c2, n * c2 / (n - 1) if n > 1 else None, c3, c4])


def weigh(kind, x, w):
    if not all(is_number(kind, cell) for cell in x + w):
        return [0, none(kind)]
    pairs = [(number(kind, a), number(kind, b)) for a, b in zip(x, w)]
    weight = sum(b for a, b in pairs)
    if weight == 0:
        return [-4]
    return answer(kind, [sum(a * b for a, b in pairs) / weight])


def is_none(kind, cell):
    return kind in BITS and cell % sign_bit(kind) > infinite(kind)


def one_form(kind, cell):
    return none(kind) if is_none(kind, cell) else cell


def value(kind, cell):
    """The number that a cell is compared by; an infinite one stands beyond all numbers, what's none has no value."""
    if kind in BITS:
        return None if is_none(kind, cell) else number(kind, cell)
    return int.from_bytes(cell.to_bytes(BYTES[kind], "little"), "little", signed=kind in SIGNED_KINDS)


def order(kind, cell):
    """What cells are sorted by: what's none behind all, then the value, then the sign before none."""
    if is_none(kind, cell):
        return (1, 0, 0)
    with_sign = kind in BITS and cell >= sign_bit(kind)
    return (0, value(kind, cell), 0 if with_sign else 1)


def sort(kind, x):
    return [0] + sorted((one_form(kind, cell) for cell in x), key=lambda cell: order(kind, cell))


def ranks(kind, x):
    """Each cell against each, as the words tell it."""
    values = [value(kind, cell) for cell in x]
    told = []
    for mine in values:
        if mine is None:
            before = sum(other is not None for other in values)
            same = sum(other is None for other in values)
        else:
            before = sum(other is not None and other < mine for other in values)
            same = sum(other is not None and other == mine for other in values)
        told.append(2 * before + same + 1)
    return [0] + told


def quantile(kind, ordered, a, b):
    """The flags and the cell."""
    place = Fraction((len(ordered) - 1) * a, b)
    i = place.numerator // place.denominator
    if place == i:
        return 0, ordered[i]
    low, high = ordered[i], ordered[i + 1]
    if is_number(kind, low) and is_number(kind, high):
        part = place - i
        return rounded(kind, number(kind, low) * (1 - part) + number(kind, high) * part)
    if none(kind) in (low, high):
        return 0, none(kind)
    beyond = [cell for cell in (low, high) if not is_number(kind, cell)]
    return 0, beyond[0] if len(set(beyond)) == 1 else none(kind)


def quant(kind, x, fractions):
    ordered = sort(kind, x)[1:]
    results = [quantile(kind, ordered, a, b) for a, b in zip(fractions[0::2], fractions[1::2])]
    flags = 0
    for flag, cell in results:
        flags |= flag
    return [flags] + [cell for flag, cell in results]


def hist(kind, x, edges):
    """Each cell against each edge, as the words tell it."""
    bounds = [value(kind, edge) for edge in edges]
    last = len(bounds) - 1
    told = [0] * (last + 3)
    for cell in x:
        mine = value(kind, cell)
        if mine is None:
            told[last + 2] += 1
        elif mine < bounds[0]:
            told[last] += 1
        elif bounds[last] < mine:
            told[last + 1] += 1
        elif mine == bounds[last]:
            told[last - 1] += 1
        else:
            told[[bounds[i] <= mine < bounds[i + 1] for i in range(last)].index(True)] += 1
    return [0] + told


def most(kind, x):
    counts = collections.Counter(one_form(kind, cell) for cell in x)
    cell = min(counts, key=lambda cell: (-counts[cell], order(kind, cell)))
    return [0, cell, counts[cell], len(counts)]


def covariance(a, b):
    """Of two lists of numbers: the mean of the products of their distances from the means."""
    n = len(a)
    mean_a, mean_b = sum(a) / Fraction(n), sum(b) / Fraction(n)
    return sum((p - mean_a) * (q - mean_b) for p, q in zip(a, b)) / n


def cov(kind, x, y):
    if not all(is_number(kind, cell) for cell in x + y):
        return [0, none(kind)]
    return answer(kind, [covariance([number(kind, cell) for cell in x], [number(kind, cell) for cell in y])])


def covs(kind, rows):
    flags = 0
    cells = []
    for x in rows:
        for y in rows:
            flag, cell = cov(kind, x, y)
            flags |= flag
            cells.append(cell)
    return [flags] + cells


def rounded_root(kind, square, sign):
    """The flags and the cell of the root of the square, with the sign's bit: all compared by their squares."""
    low, high = 0, infinite(kind)
    while low < high:
        middle = (low + high + 1) // 2
        if size_of(kind, middle) ** 2 <= square:
            low = middle
        else:
            high = middle - 1
    cell = low
    if cell < infinite(kind):
        middle = ((size_of(kind, cell) + size_of(kind, cell + 1)) / 2) ** 2
        if square > middle or (square == middle and cell % 2 == 1):
            cell += 1
    if cell == infinite(kind):
        return 4 + 16, sign + cell
    if size_of(kind, cell) ** 2 == square:
        return 0, sign + cell
    small = square < (size_of(kind, least_ordinary(kind)) - unit(kind) / 4) ** 2
    return 16 + (8 if small else 0), sign + cell


def corr(kind, x, y):
    if not all(is_number(kind, cell) for cell in x + y):
        return [0, none(kind)]
    a, b = [number(kind, cell) for cell in x], [number(kind, cell) for cell in y]
    both = covariance(a, a) * covariance(b, b)
    if both == 0:
        return [-4]
    joint = covariance(a, b)
    if joint == 0:
        return [0, 0]
    return list(rounded_root(kind, joint ** 2 / both, sign_bit(kind) if joint < 0 else 0))


def exact_line(a, b):
    """Slope and height for which the sum of b - height - slope a and that of (b - height - slope a) a are 0."""
    n, sum_a, sum_b = Fraction(len(a)), sum(a), sum(b)
    squares, products = sum(p * p for p in a), sum(p * q for p, q in zip(a, b))
    # height n + slope sum_a = sum_b and height sum_a + slope squares = products.
    scale = n * squares - sum_a * sum_a
    return (n * products - sum_a * sum_b) / scale, (squares * sum_b - sum_a * products) / scale


def line(kind, x, y):
    if not all(is_number(kind, cell) for cell in x + y):
        return [0, none(kind), none(kind)]
    a, b = [number(kind, cell) for cell in x], [number(kind, cell) for cell in y]
    if len(set(a)) == 1:
        return [-4]
    return answer(kind, exact_line(a, b))


def pairs(kind, x, y):
    """Each place with each behind it, as the words tell it."""
    a, b = [value(kind, cell) for cell in x], [value(kind, cell) for cell in y]
    told = {"same": 0, "other": 0, "alike": 0, "apart": 0}
    for i in range(len(x)):
        for j in range(i + 1, len(x)):
            if None in (a[i], a[j], b[i], b[j]):
                told["apart"] += 1
            elif a[i] == a[j] or b[i] == b[j]:
                told["alike"] += 1
            elif (a[i] < a[j]) == (b[i] < b[j]):
                told["same"] += 1
            else:
                told["other"] += 1
    return [0] + list(told.values())


def cell_of(kind, value):
    """The cell of a Python float that the kind holds exactly, as Python itself packs it."""
    code, whole = {9: ("<e", "<H"), 10: ("<f", "<I"), 11: ("<f", "<I"), 12: ("<d", "<Q")}[kind]
    packed = struct.unpack(whole, struct.pack(code, value))[0]
    if struct.unpack(code, struct.pack(code, value))[0] != value:
        raise ValueError(f"kind {kind} doesn't hold {value}")
    if kind != 10:
        return packed
    if packed % 2 ** 16 != 0:
        raise ValueError(f"kind {kind} doesn't hold {value}")
    return packed >> 16


def row_of(kind, values):
    return [cell_of(kind, value) for value in values]


def spread_cells(kind, n, seed, low=0, high=None):
    """n cells that are numbers, scattered over the exponents from low up to, not with, high, of both signs."""
    e, m = BITS[kind]
    high = 2 ** e - 1 if high is None else high
    cells = []
    state = seed
    for i in range(n):
        state = (state * 6364136223846793005 + 1442695040888963407) % 2 ** 64
        mixed = state ^ (state >> 29)
        x = low + (mixed >> 8) % (high - low)
        state = (state * 6364136223846793005 + 1442695040888963407) % 2 ** 64
        mixed = state ^ (state >> 31)
        cells.append((mixed >> 63) * sign_bit(kind) + x * 2 ** m + mixed % 2 ** m)
    return cells


def scattered(n, seed):
    """n whole numbers below 2^64, the same each time."""
    state = seed * 2654435761 + 12345
    numbers = []
    for i in range(n):
        state = (state * 6364136223846793005 + 1442695040888963407) % 2 ** 64
        mixed = ((state >> 32) ^ state) * 0x9E3779B97F4A7C15 % 2 ** 64
        numbers.append(mixed ^ (mixed >> 29))
    return numbers


def odd_cells(kind):
    """Cells of a floating kind that are infinite or none, with the sign and without."""
    size = infinite(kind)
    sizes = (size, none(kind), size + 1, none(kind) + 1, none(kind) - 1, sign_bit(kind) - 1)
    return [cell for size in sizes for cell in (size, negative(kind, size))]


def edge_cells(kind):
    """The cells of a kind beside which something changes."""
    if kind not in BITS:
        half = 2 ** (8 * BYTES[kind] - 1)
        return [0, 1, 2, half - 2, half - 1, half, half + 1, 2 * half - 2, 2 * half - 1]
    one = cell_of(kind, 1.0)
    least = least_ordinary(kind)
    sizes = (0, 1, 2, least - 1, least, least + 1, one - 1, one, one + 1, greatest(kind))
    return [cell for size in sizes for cell in (size, negative(kind, size))] + odd_cells(kind)


def no_cells(kind):
    """Numbers that may be handed in and are no cells of the kind; none of them for kinds of 64 bits."""
    end = 2 ** (8 * BYTES[kind])
    return sorted(number for number in {end, end + 1, 2 ** 63, 2 ** 64 - 1} if end <= number < 2 ** 64)


def mixed_cells(kind, n, seed):
    """n cells of a kind: any ones, and among them ones of edge_cells, so that some come again."""
    edges = edge_cells(kind)
    cells = []
    for mixed in scattered(n, seed):
        if mixed % 3 == 0:
            cells.append(edges[(mixed >> 8) % len(edges)])
        else:
            cells.append((mixed >> 5) % 2 ** (8 * BYTES[kind]))
    return cells

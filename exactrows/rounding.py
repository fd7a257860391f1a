"""How an exact number becomes a cell of a floating kind, with its flags."""

TOO_GREAT = 4
TOO_SMALL = 8
NOT_EXACT = 16


def floor_power(above, below):
    """The p for which 2 to the p is at most above / below, and 2 to the p + 1 is more; both are above 0."""
    power = above.bit_length() - below.bit_length()
    parts = by_power(above, below, power)
    if parts[0] < parts[1]:
        return power - 1
    return power


def by_power(above, below, power):
    """The fraction above / below divided by 2 to the power, as its two whole parts."""
    if power < 0:
        return (above << -power, below)
    return (above, below << power)


def nearest(above, below):
    """The whole number nearest to above / below, the even one of two as near; neither is below 0."""
    whole = above // below
    twice_left = 2 * (above % below)
    if twice_left > below or (twice_left == below and whole % 2 == 1):
        return whole + 1
    return whole


def rounded(shape, above, below):
    """The flags and the cell of above / below, rounded once."""
    if above == 0:
        return [0, 0]
    sign = shape.sign if (above < 0) != (below < 0) else 0
    return rounded_size(shape, abs(above), abs(below), sign)


def rounded_size(shape, above, below, sign):
    """The flags and the cell of above / below, both above 0, with the sign's bit added to the cell."""
    power = floor_power(above, below)
    kept_power = max(power, shape.least_power)
    parts = by_power(above, below, kept_power - shape.fraction_bits)
    multiple = nearest(parts[0], parts[1])
    # A multiple that reaches the next power of 2 carries into the exponent's bits by itself.
    size = ((kept_power - shape.least_power) << shape.fraction_bits) + multiple
    if size >= shape.infinite:
        return [TOO_GREAT + NOT_EXACT, sign + shape.infinite]
    if parts[0] == multiple * parts[1]:
        return [0, sign + size]
    if stays_small(shape, above, below, power):
        return [TOO_SMALL + NOT_EXACT, sign + size]
    return [NOT_EXACT, sign + size]


def stays_small(shape, above, below, power):
    """Whether above / below is under the least ordinary number even if rounded with all bits of fraction.

    The power is the floor power of above / below.
    """
    if power >= shape.least_power:
        return False
    parts = by_power(above, below, power - shape.fraction_bits)
    return nearest(parts[0], parts[1]) < (1 << (shape.least_power - power + shape.fraction_bits))


def rounded_by_root(shape, above, square):
    """The flags and the cell of above by the root of the square, which is above 0; rounded once."""
    if above == 0:
        return [0, 0]
    parts = near_root(shape, above ** 2, square)
    if above < 0:
        return rounded(shape, -parts[0], parts[1])
    return rounded(shape, parts[0], parts[1])


def near_root(shape, above, below):
    """A fraction that is rounded just as the root of above / below is, both above 0; its two whole parts."""
    power = floor_power(above, below) // 2
    # Each cell, and each middle of two, that the root could lie at is a multiple of 2 to the power -depth.
    depth = shape.fraction_bits + 1 - power
    parts = by_power(above, below, -2 * depth)
    multiple = floor_root(parts[0] // parts[1])
    # Where the root lies between two multiples, it's enough to tell that: halfway stands for all places there.
    between = 0 if multiple ** 2 * parts[1] == parts[0] else 1
    return by_power(2 * multiple + between, 1, depth + 1)


def floor_root(number):
    """The greatest whole number whose square is at most the number, which is above 0."""
    root = 1 << ((number.bit_length() + 1) // 2)
    closer = (root + number // root) // 2
    while closer < root:
        root = closer
        closer = (root + number // root) // 2
    return root


def rounded_units(shape, above, below, degree):
    """The flags and the cell of above / below times the kind's unit to the degree."""
    return rounded(shape, above, below << (degree * shape.unit_depth))


def one_answer(results):
    """One answer of several results: the flags of all, then the cell of each."""
    flags = 0
    for result in results:
        flags = flags | result[0]
    return [flags] + [result[1] for result in results]

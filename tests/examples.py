"""Arguments for each call, some that are answered and some that are refused."""

from exactrows import figures
from tests import reference as ref

ODD_KINDS = [0, 13, 2 ** 64 - 1]


def rows(kind):
    """Rows that are answered, then rows that some calls or all refuse."""
    kind = kind if kind in ref.ALL_KINDS else 9
    if kind in ref.WHOLE_KINDS:
        half = 2 ** (8 * ref.BYTES[kind] - 1)
        answered = [[half, 3, half - 1, 3, 0], ref.mixed_cells(kind, 20, kind), [half]]
    else:
        one = ref.cell_of(kind, 1.0)
        minus_infinite = ref.negative(kind, ref.infinite(kind))
        answered = [[one + 3, one, ref.sign_bit(kind), 7], ref.spread_cells(kind, 20, kind), [one],
                    [one, ref.none(kind) + 1, minus_infinite, one], [0, 0, ref.sign_bit(kind)]]
    return answered + [[], [1] * 4097, [2 ** 64 - 1, 1, 0]]


def of_one_row():
    for kind in ref.ALL_KINDS + ODD_KINDS:
        for row in rows(kind):
            for name in ("mean", "moments", "sort", "ranks", "most"):
                yield name, (kind, row)
            for fractions in ([1, 2, 3, 7, 0, 1], [], [1, 0], [2, 1, 1, 2], [1, 2 ** 32]):
                yield "quant", (kind, row, fractions)
            for edges in ([1, 3, 5], [0, 100], [2, 2], [3, 1], [1], [0, 2 ** 64 - 1]):
                yield "hist", (kind, row, edges)


def of_two_rows():
    for kind in ref.ALL_KINDS + ODD_KINDS:
        for row in rows(kind):
            for other in (row[::-1], row[1:], row[-1:] + row[:-1]):
                for name in ("weigh", "cov", "corr", "line", "pairs"):
                    yield name, (kind, row, other)


def of_many_rows():
    for kind in ref.ALL_KINDS + ODD_KINDS:
        yield "covs", (kind, [])
        yield "covs", (kind, [[1]] * 65)
        for row in rows(kind):
            if len(row) <= 240:
                yield "covs", (kind, [row])
                yield "covs", (kind, [row, row[::-1], row])
                yield "covs", (kind, [row, row[1:]])


def of_draws():
    for key in ([1, 2, 3, 4], [2 ** 32 - 1] * 4, [0, 0, 0, 2 ** 32], [1, 2, 3], [1, 2, 3, 4, 5], []):
        for stream, first in ((0, 0), (7, 2 ** 64 - 2), (2 ** 64 - 1, 2 ** 32)):
            for n, m in ((10, 3), (2 ** 32, 4), (1, 0), (0, 1), (2 ** 32 + 1, 1), (5, 4097)):
                yield "again", (stream, first, n, m, key)
            for n in (0, 1, 2, 20, 4097):
                yield "shuffle", (stream, first, n, key)


def examples():
    """The calls' names with their arguments."""
    return list(of_one_row()) + list(of_two_rows()) + list(of_many_rows()) + list(of_draws())


def call(name, args):
    return getattr(figures, name)(*args)

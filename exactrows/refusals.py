"""What the calls refuse, and with which number; 0 where nothing is refused."""

from exactrows.cells import are_cells, is_floating, is_whole
from exactrows.orders import are_rising

MOST_CELLS = 4096
MOST_ROWS = 64
LEAST_EDGES = 2
MOST_EDGES = 4097
MOST_FRACTIONS = 4096
MOST_DRAWS = 4096
KEY_LENGTH = 4
# 2^32: the first whole number that is too great for one of a fraction's two and for a key's word.
WORD_END = 4294967296

WRONG_FORM = -1
WRONG_ORDER = -2
NOTHING_TO_TELL = -4


def row_refusal(kind, row):
    """The refusal of one row of any kind, which may be without cells."""
    if not (is_whole(kind) or is_floating(kind)):
        return WRONG_FORM
    return cells_refusal(kind, row, MOST_CELLS)


def cells_refusal(kind, cells, most_cells):
    """The refusal of cells of a kind that there is, which are to be so many at most."""
    if len(cells) > most_cells or not are_cells(kind, cells):
        return WRONG_FORM
    return 0


def numbers_refusal(kind, rows):
    """The refusal of one row or more that go together and tell numbers of a floating kind."""
    if not is_floating(kind):
        return WRONG_FORM
    for row in rows:
        if len(row) != len(rows[0]) or cells_refusal(kind, row, MOST_CELLS) != 0:
            return WRONG_FORM
    if len(rows[0]) == 0:
        return NOTHING_TO_TELL
    return 0


def rows_refusal(kind, rows):
    """The refusal of any number of rows that go together and tell numbers of a floating kind."""
    if not is_floating(kind) or len(rows) > MOST_ROWS:
        return WRONG_FORM
    if len(rows) == 0:
        return NOTHING_TO_TELL
    return numbers_refusal(kind, rows)


def quantile_refusal(kind, row, fractions):
    """The refusal of a row of a floating kind with fractions, the two numbers of each one behind another."""
    refused = numbers_refusal(kind, [row])
    if refused == WRONG_FORM or len(fractions) > 2 * MOST_FRACTIONS:
        return WRONG_FORM
    if any([number >= WORD_END for number in fractions]):
        return WRONG_FORM
    for i in range(0, len(fractions), 2):
        if fractions[i + 1] == 0 or fractions[i] > fractions[i + 1]:
            return WRONG_ORDER
    return refused


def bins_refusal(kind, row, edges):
    """The refusal of a row of any kind with edges."""
    if row_refusal(kind, row) != 0 or len(edges) < LEAST_EDGES or cells_refusal(kind, edges, MOST_EDGES) != 0:
        return WRONG_FORM
    if not are_rising(kind, edges):
        return WRONG_ORDER
    return 0


def most_refusal(kind, row):
    """The refusal of a row of any kind that is to have cells."""
    refused = row_refusal(kind, row)
    if refused == 0 and len(row) == 0:
        return NOTHING_TO_TELL
    return refused


def pairs_refusal(kind, x, y):
    """The refusal of two rows of any kind that go together, which may be without cells."""
    if row_refusal(kind, x) != 0 or row_refusal(kind, y) != 0 or len(x) != len(y):
        return WRONG_FORM
    return 0


def again_refusal(n, m, key):
    """The refusal of m draws below n."""
    if n == 0 or n > WORD_END:
        return WRONG_FORM
    return draws_refusal(m, key)


def draws_refusal(many, key):
    """The refusal of so many draws of a key."""
    if many > MOST_DRAWS or len(key) != KEY_LENGTH or any([word >= WORD_END for word in key]):
        return WRONG_FORM
    return 0

"""Tables of integers: determinants, ranks, rows that depend, products."""

from farseen.checks import are_integers, is_list, primitive
from farseen.errors import BadTable
from farseen.papers import Paper

MOST_ROWS = 16
MOST_COLUMNS = 7


class Rank(Paper):
    """The rank of a table, and the first rows and columns that show it."""

    def __init__(self, many, rows, columns):
        super().__init__("rank", many, rows, columns)
        self.many, self.rows, self.columns = self.parts


def is_table(value):
    """Whether it is a list of 1 to 16 rows of as many integers each, 1 to 7."""
    if not is_list(value) or not 1 <= len(value) <= MOST_ROWS:
        return False
    if not all([are_integers(row) for row in value]):
        return False
    width = len(value[0])
    return 1 <= width <= MOST_COLUMNS and all([len(row) == width for row in value])


def check_table(rows):
    """Raise BadTable unless rows are a table."""
    if not is_table(rows):
        raise BadTable("rows")


def determinant(rows):
    """The determinant of as many rows as columns."""
    check_table(rows)
    many = len(rows)
    if len(rows[0]) != many:
        raise BadTable("rows")
    table = [list(row) for row in rows]
    sign, last = 1, 1
    for at in range(many):
        heads = [k for k in range(at, many) if table[k][at] != 0]
        if not heads:
            return 0
        if heads[0] != at:
            table[at], table[heads[0]] = table[heads[0]], table[at]
            sign = -sign
        top = table[at]
        for k in range(at + 1, many):
            # The pivot ahead divides every number here (Bareiss), so all stay integers.
            table[k] = [(table[k][c] * top[at] - table[k][at] * top[c]) // last for c in range(many)]
        last = top[at]
    return sign * last


def _cleared(row, basis):
    """The row, times an integer, less multiples of the basis, 0 at the heads of all these."""
    for head, base in basis:
        if row[head] != 0:
            row = primitive([base[head] * mine - row[head] * its for mine, its in zip(row, base)])
    return row


def _head(row, width):
    """Where the first number other than 0 stands among so many, or None."""
    for at in range(width):
        if row[at] != 0:
            return at
    return None


def _first_rows(rows):
    """The first lot of rows, as many as there can be, that do not depend."""
    basis, found = [], []
    for at, row in enumerate(rows):
        left = _cleared(row, basis)
        head = _head(left, len(left))
        if head is not None:
            basis.append((head, left))
            found.append(at)
    return tuple(found)


def rank(rows):
    """The Rank of a table."""
    check_table(rows)
    lot = _first_rows(rows)
    columns = _first_rows([[rows[at][c] for at in lot] for c in range(len(rows[0]))])
    return Rank(len(lot), lot, columns)


def dependence(rows):
    """How many times the rows add up to 0 everywhere, or None if they do not depend."""
    check_table(rows)
    width, many = len(rows[0]), len(rows)
    basis = []
    for at, row in enumerate(rows):
        # Behind its numbers each row keeps how many times it was made of all rows.
        left = _cleared(list(row) + [int(k == at) for k in range(many)], basis)
        head = _head(left, width)
        if head is None:
            return primitive(left[width:])
        basis.append((head, left))
    return None


def products_of(rows):
    """The products of rows that are known to be a table."""
    width = len(rows[0])
    found = [[0] * width for _ in range(width)]
    for a in range(width):
        for b in range(a + 1):
            told = sum([row[a] * row[b] for row in rows])
            found[a][b] = told
            found[b][a] = told
    return tuple([tuple(row) for row in found])


def products(rows):
    """For each two columns the sum of what both have in a row, multiplied."""
    check_table(rows)
    return products_of(rows)

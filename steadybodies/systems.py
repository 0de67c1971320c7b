"""Systems of linear equations with as many unknowns."""

from steadybodies.ratios import common_denominator, fraction


def solve(matrix, right):
    """The only solution of the system matrix times x is right, or None if there is none or more than one."""
    rows = [whole_row(row, edge) for row, edge in zip(matrix, right)]
    count = len(rows)
    divisor = 1
    for at in range(count):
        chosen = find_pivot(rows, at)
        if chosen is None:
            return None
        rows[at], rows[chosen] = rows[chosen], rows[at]
        pivot = rows[at][at]
        rows = [row if k == at else cleared(row, rows[at], at, divisor) for k, row in enumerate(rows)]
        divisor = pivot
    return tuple([fraction(row[count], divisor) for row in rows])


def whole_row(row, edge):
    """An equation, its right side behind its factors, times a number that makes all of them integers."""
    common = common_denominator([*row, edge])
    return [factor[0] * (common // factor[1]) for factor in [*row, edge]]


def find_pivot(rows, at):
    """The first row from a number on that has a factor in the column of this number, or None."""
    for k in range(at, len(rows)):
        if rows[k][at] != 0:
            return k
    return None


def cleared(row, base, at, divisor):
    """A row without its factor in a column, by the base row of this column.

    All entries are determinants of parts of the first matrix, so the division by the pivot of the column
    before, the divisor, leaves nothing, and the integers do not grow beyond these determinants.
    """
    pivot = base[at]
    factor = row[at]
    return [(entry * pivot - other * factor) // divisor for entry, other in zip(row, base)]

"""Square tables, lists of rows: of fractions, or, for x less a table, of polynomials."""

from tablesalike.poly import common_of_all, poly_divided, poly_minus, poly_product, poly_sum, trimmed
from tablesalike.ratio import ONE, ZERO, ratio_minus


def x_less(table):
    """x on the diagonal, less the table: a table of polynomials."""
    rows = []
    for at, row in enumerate(table):
        line = [trimmed([ratio_minus(number)]) for number in row]
        line[at] = poly_sum([ZERO, ONE], line[at])
        rows.append(line)
    return rows


def without_column(rows, column):
    return [row[:column] + row[column + 1:] for row in rows]


def determinant(rows):
    """The determinant of a table of polynomials, along its first row; of no rows it's 1.

    It calls itself once a row, so never deeper than a table has rows.
    """
    if len(rows) == 0:
        return [ONE]
    total = []
    for column, entry in enumerate(rows[0]):
        if len(entry) > 0:
            part = poly_product(entry, determinant(without_column(rows[1:], column)))
            total = poly_sum(total, part if column % 2 == 0 else poly_minus(part))
    return total


def choices(count, size):
    """All the rising lists of that size of the numbers from 0 to count - 1."""
    found = [[]]
    for taken in range(size):
        longer = []
        for chosen in found:
            start = chosen[-1] + 1 if taken > 0 else 0
            longer.extend([chosen + [place] for place in range(start, count)])
        found = longer
    return found


def part_of(rows, chosen_rows, chosen_columns):
    part = []
    for place in chosen_rows:
        row = rows[place]
        part.append([row[column] for column in chosen_columns])
    return part


def minors(rows, size):
    """The determinants of all the choices of size rows and size columns."""
    chosen = choices(len(rows), size)
    found = []
    for chosen_rows in chosen:
        found.extend([determinant(part_of(rows, chosen_rows, columns)) for columns in chosen])
    return found


def polynomial_of(table):
    return determinant(x_less(table))


def forms_of(table):
    """The forms of a table of fractions, in order; the last one is its least polynomial."""
    rows = x_less(table)
    found = []
    before = [ONE]
    for size in range(1, len(rows) + 1):
        shared = common_of_all(minors(rows, size))
        form = poly_divided(shared, before)[0]
        if form != [ONE]:
            found.append(form)
        before = shared
    return found

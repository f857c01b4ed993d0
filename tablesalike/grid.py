"""Tables of fractions, lists of rows: ones that are made of polynomials, and what polynomials make of them."""

from tablesalike.ratio import ONE, ZERO, ratio_minus, ratio_product, ratio_sum


def empty_table(size):
    return [[ZERO] * size for row in range(size)]


def put_table_of(rows, start, form):
    """Puts the table of a polynomial with 1 at its highest power into rows, its top left at start on the diagonal."""
    last = start + len(form) - 2
    for place in range(start, last):
        rows[place + 1][place] = ONE
    for power in range(len(form) - 1):
        rows[start + power][last] = ratio_minus(form[power])


def along_diagonal(forms):
    """The table with the tables of these polynomials along its diagonal, from the top left, 0 elsewhere."""
    rows = empty_table(sum([len(form) - 1 for form in forms]))
    start = 0
    for form in forms:
        put_table_of(rows, start, form)
        start = start + len(form) - 1
    return rows


def row_times(row, vector):
    total = ZERO
    for left, right in zip(row, vector):
        total = ratio_sum(total, ratio_product(left, right))
    return total


def table_times(table, vector):
    return [row_times(row, vector) for row in table]


def column_of(table, at):
    return [row[at] for row in table]


def table_product(left, right):
    columns = [column_of(right, at) for at in range(len(right))]
    rows = []
    for row in left:
        rows.append([row_times(row, column) for column in columns])
    return rows


def poly_at(p, table):
    """The polynomial p of the table."""
    total = empty_table(len(table))
    for number in reversed(p):
        total = table_product(total, table)
        for at in range(len(table)):
            total[at][at] = ratio_sum(total[at][at], number)
    return total

"""Tables of fractions, lists of rows, that are made of polynomials."""

from tablesalike.ratio import ONE, ZERO, ratio_minus


def empty_table(size):
    return [[ZERO] * size for row in range(size)]


def put_table_of(rows, start, form):
    """Puts the table of a polynomial with 1 at its highest power into rows, its top left at start on the diagonal."""
    last = start + len(form) - 2
    for place in range(start, last):
        rows[place + 1][place] = ONE
    for power in range(len(form) - 1):
        rows[start + power][last] = ratio_minus(form[power])


def along_diagonal(forms):
    """The table with the tables of these polynomials along its diagonal, from the top left, 0 elsewhere."""
    rows = empty_table(sum([len(form) - 1 for form in forms]))
    start = 0
    for form in forms:
        put_table_of(rows, start, form)
        start = start + len(form) - 1
    return rows

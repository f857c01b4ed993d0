"""Vectors, lists of fractions: the least polynomial of one.

A line is a tuple: a vector, and the polynomial that, of the table, times the first vector is that vector.
"""

from tablesalike.grid import table_times
from tablesalike.poly import poly_product, poly_sum, trimmed
from tablesalike.ratio import ONE, ZERO, ratio_minus, ratio_product, ratio_quotient, ratio_sum


def first_place(vector):
    """The first place where the vector isn't 0, or None if it's 0 everywhere."""
    for place, number in enumerate(vector):
        if number != ZERO:
            return place
    return None


def sum_with_times(vector, factor, other):
    """The vector and factor times the other one."""
    return [ratio_sum(number, ratio_product(factor, more)) for number, more in zip(vector, other)]


def lowered(line, lines):
    """The line less some of each of the others, so that it's 0 at their first places.

    Each of the others must be 0 at the first places of those before it, else what has become 0 wouldn't stay so.
    """
    vector = line[0]
    p = line[1]
    for other in lines:
        place = first_place(other[0])
        factor = ratio_minus(ratio_quotient(vector[place], other[0][place]))
        vector = sum_with_times(vector, factor, other[0])
        p = poly_sum(p, poly_product(trimmed([factor]), other[1]))
    return (vector, p)


def least_polynomial_of(table, vector):
    """Of the polynomials with 1 at their highest power that, of the table, times the vector are 0 the least one."""
    lines = []
    line = (vector, [ONE])
    while first_place(line[0]) is not None:
        lines.append(line)
        line = lowered((table_times(table, line[0]), poly_product([ZERO, ONE], line[1])), lines)
    return line[1]

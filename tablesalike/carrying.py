"""The tables x that carry a table a into a table b: those with a x = x b."""

from tablesalike.grid import table_product
from tablesalike.poly import number_at, poly_common
from tablesalike.ratio import ZERO
from tablesalike.square import forms_of, polynomial_of


def count_carried(a, b):
    """How many tables carry a into b that don't hang on others.

    Told by axes that make both tables plain, such a table falls into parts, one for each form of a and each of b, that
    don't bear on one another; in each part there are as many as the degree of what the two forms have in common.
    """
    forms_of_b = forms_of(b)
    total = 0
    for form in forms_of(a):
        for other in forms_of_b:
            total = total + len(poly_common(form, other)) - 1
    return total


def has_inverse(table):
    """Whether there's a table that this one times is the unit table."""
    # the number at power 0 is the table's determinant, but for the sign
    return number_at(polynomial_of(table), 0) != ZERO


def does_carry(a, b, p):
    return table_product(a, p) == table_product(p, b)

"""The calls: each takes texts as lists of bytes and answers one list of whole numbers."""

from tablesalike.reading import table_of, table_refusal
from tablesalike.square import forms_of, polynomial_of
from tablesalike.writing import answer, poly_text


def forms(a):
    """How many forms the table has; then they."""
    refusal = table_refusal(a)
    if refusal < 0:
        return [refusal]
    found = forms_of(table_of(a))
    return answer(len(found), [poly_text(form) for form in found])


def char(a):
    """2; then the table's polynomial and its least polynomial."""
    refusal = table_refusal(a)
    if refusal < 0:
        return [refusal]
    table = table_of(a)
    least = forms_of(table)[-1]
    return answer(2, [poly_text(polynomial_of(table)), poly_text(least)])

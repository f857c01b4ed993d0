"""The calls: each takes texts as lists of bytes and answers one list of whole numbers."""

from tablesalike.carrying import count_carried, does_carry, has_inverse
from tablesalike.grid import along_diagonal, poly_at
from tablesalike.poly_reading import poly_of, poly_refusal
from tablesalike.reading import counted_refusal, numbers_of, table_of, table_refusal, tables_of
from tablesalike.square import forms_of, polynomial_of
from tablesalike.stretching import simple_of, stretches_of
from tablesalike.vectors import least_polynomial_of
from tablesalike.writing import answer, number_text, poly_text, table_answer


def forms(a):
    """How many forms the table has; then they."""
    refusal = table_refusal(a)
    if refusal < 0:
        return [refusal]
    found = forms_of(table_of(a))
    return answer(len(found), [poly_text(form) for form in found])


def char(a):
    """2; then the table's polynomial and its least polynomial."""
    refusal = table_refusal(a)
    if refusal < 0:
        return [refusal]
    table = table_of(a)
    least = forms_of(table)[-1]
    return answer(2, [poly_text(polynomial_of(table)), poly_text(least)])


def alike(n, texts):
    """1 if the two tables have the same forms, else 0."""
    refusal = counted_refusal(n, texts, 2 * n * n)
    if refusal < 0:
        return [refusal]
    both = tables_of(n, texts)
    return [1 if forms_of(both[0]) == forms_of(both[1]) else 0]


def plain(a):
    """The table with the tables of the forms along its diagonal: how many rows it has; then its numbers."""
    refusal = table_refusal(a)
    if refusal < 0:
        return [refusal]
    return table_answer(along_diagonal(forms_of(table_of(a))))


def value(n, texts):
    """The polynomial of the table: how many rows it has; then its numbers."""
    # the numbers behind p are looked at first: what is wrong with them is told ahead of what is wrong with p
    refusal = counted_refusal(n, texts[1:], n * n)
    if refusal == 0:
        refusal = poly_refusal(texts[0])
    if refusal < 0:
        return [refusal]
    return table_answer(poly_at(poly_of(texts[0]), table_of(texts[1:])))


def vector(n, texts):
    """1; then the least polynomial of the vector."""
    count = n * n
    refusal = counted_refusal(n, texts, count + n)
    if refusal < 0:
        return [refusal]
    least = least_polynomial_of(table_of(texts[:count]), numbers_of(texts[count:]))
    return answer(1, [poly_text(least)])


def carried(n, texts):
    """How many tables carry the first table into the second that don't hang on others."""
    refusal = counted_refusal(n, texts, 2 * n * n)
    if refusal < 0:
        return [refusal]
    both = tables_of(n, texts)
    return [count_carried(both[0], both[1])]


def carries(n, texts):
    """1 if the third table carries the first into the second and has an inverse, else 0."""
    refusal = counted_refusal(n, texts, 3 * n * n)
    if refusal < 0:
        return [refusal]
    three = tables_of(n, texts)
    holds = does_carry(three[0], three[1], three[2]) and has_inverse(three[2])
    return [1 if holds else 0]


def stretches(a):
    """How many fractions stretch some vector; then each, how often it's a root, how many such vectors there are."""
    refusal = table_refusal(a)
    if refusal < 0:
        return [refusal]
    found = stretches_of(forms_of(table_of(a)))
    texts = []
    for root, times, free in found:
        texts.extend([number_text(root), str(times), str(free)])
    return answer(len(found), texts)


def simple(a):
    """0 if a square goes into the table's least polynomial; else 2 if all its roots are fractions; else 1."""
    refusal = table_refusal(a)
    if refusal < 0:
        return [refusal]
    return [simple_of(forms_of(table_of(a))[-1])]

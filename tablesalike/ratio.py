"""Fractions: tuples (top, bottom) with the bottom above 0 and nothing above 1 that goes into both.

Each fraction has one such tuple, so two are the same number just if the tuples are equal.
"""

ZERO = (0, 1)
ONE = (1, 1)


def whole_common(first, second):
    """The greatest whole number that goes into both; neither is below 0, 0 and 0 give 0."""
    larger = first
    smaller = second
    while smaller != 0:
        rest = larger % smaller
        larger = smaller
        smaller = rest
    return larger


def lowest(top, bottom):
    """The fraction top by bottom; bottom isn't 0."""
    shared = whole_common(abs(top), abs(bottom))
    if bottom < 0:
        # dividing by a number below 0 carries the sign over to the top
        shared = -shared
    return (top // shared, bottom // shared)


def ratio_sum(first, second):
    return lowest(first[0] * second[1] + second[0] * first[1], first[1] * second[1])


def ratio_minus(number):
    return (-number[0], number[1])


def ratio_product(first, second):
    return lowest(first[0] * second[0], first[1] * second[1])


def ratio_quotient(first, second):
    """first by second; second isn't 0."""
    return lowest(first[0] * second[1], first[1] * second[0])

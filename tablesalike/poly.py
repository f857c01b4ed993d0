"""Polynomials: lists of fractions, the number of power k at place k, the last one not 0.

The polynomial 0 is the empty list, so two are the same polynomial just if the lists are equal.
"""

from tablesalike.ratio import ONE, ZERO, ratio_minus, ratio_product, ratio_quotient, ratio_sum


def trimmed(numbers):
    """The polynomial of these numbers, the 0s behind its highest power left out."""
    kept = list(numbers)
    while len(kept) > 0 and kept[-1] == ZERO:
        kept.pop()
    return kept


def number_at(p, power):
    return p[power] if power < len(p) else ZERO


def poly_sum(p, q):
    size = max(len(p), len(q))
    return trimmed([ratio_sum(number_at(p, power), number_at(q, power)) for power in range(size)])


def poly_minus(p):
    return [ratio_minus(number) for number in p]


def poly_product(p, q):
    result = [ZERO] * (len(p) + len(q))
    for low, left in enumerate(p):
        for high, right in enumerate(q):
            result[low + high] = ratio_sum(result[low + high], ratio_product(left, right))
    return trimmed(result)


def poly_slope(p):
    """The polynomial that tells at each place how steeply p rises there."""
    return [ratio_product((power, 1), number) for power, number in enumerate(p)][1:]


def poly_divided(p, q):
    """The quotient of p by q and the rest, which is of a lower degree than q or 0; q isn't 0."""
    rest = list(p)
    quotient = [ZERO] * max(len(p) - len(q) + 1, 0)
    for shift in range(len(p) - len(q), -1, -1):
        factor = ratio_quotient(rest[shift + len(q) - 1], q[-1])
        quotient[shift] = factor
        for power, number in enumerate(q):
            taken = ratio_minus(ratio_product(factor, number))
            rest[shift + power] = ratio_sum(rest[shift + power], taken)
    return (trimmed(quotient), trimmed(rest))


def with_one_on_top(p):
    """p by the number at its highest power; 0 stays 0."""
    return [ratio_quotient(number, p[-1]) for number in p]


def poly_common(p, q):
    """What p and q have in common, with 1 at its highest power; 0 if both are 0."""
    larger = p
    smaller = q
    while len(smaller) > 0:
        rest = poly_divided(larger, smaller)[1]
        larger = smaller
        # without this the numbers would grow from step to step
        smaller = with_one_on_top(rest)
    return with_one_on_top(larger)


def common_of_all(polys):
    """What all of them have in common; 0 if all are 0 or there are none."""
    shared = []
    for p in polys:
        shared = poly_common(shared, p)
        if shared == [ONE]:
            # nothing but 1 goes into 1: the others can't change it
            break
    return shared

"""The fractions at which a polynomial is 0.

They are found as whole numbers, those of a polynomial whose roots are so many times as large that all its numbers are
whole. Trying what goes into its last number would take too long; halving the way between a place where it's below 0 and
one where it's above doesn't.
"""

from tablesalike.poly import poly_divided, poly_slope
from tablesalike.ratio import ONE, lowest, ratio_minus, ratio_product, whole_common


def common_bottom(p):
    """The least whole number that all the bottoms of p's numbers go into."""
    least = 1
    for number in p:
        least = least // whole_common(least, number[1]) * number[1]
    return least


def stretched(p, factor):
    """The polynomial with 1 at its highest power whose roots are factor times those of p, which has 1 there too."""
    numbers = []
    power_of_factor = 1
    for number in reversed(p):
        numbers.append(ratio_product(number, (power_of_factor, 1)))
        power_of_factor = power_of_factor * factor
    return list(reversed(numbers))


def whole_at(p, place):
    """What p, all numbers of which are whole, is at a whole number."""
    total = 0
    for number in reversed(p):
        total = total * place + number[0]
    return total


def crossing(p, low, high):
    """The whole number, from low on and below high, such that a root lies at it, at the next one or between.

    p only rises or only falls from low to high, and is below 0 at one of them, above 0 at the other.
    """
    rises = whole_at(p, low) < 0
    left = low
    right = high
    while right - left > 1:
        middle = (left + right) // 2
        if (whole_at(p, middle) > 0) == rises:
            right = middle
        else:
            left = middle
    return left


def near_roots(p, turns):
    """Rising whole numbers such that each real root of p lies at one of them, at the one next to it or between.

    turns are such numbers of p's slope, so that p doesn't turn from the one next to a turn to the turn behind it.
    """
    # no root is as far from 0 as that: there the highest power outweighs all the others
    bound = 1 + max([abs(number[0]) for number in p])
    starts = [-bound] + [turn + 1 for turn in turns]
    ends = turns + [bound]
    found = list(turns)
    for low, high in zip(starts, ends):
        # a root that lies at low or at high lies beside a turn, which is found already
        if whole_at(p, low) * whole_at(p, high) < 0:
            found.append(crossing(p, low, high))
    return sorted(found)


def whole_roots(p):
    """The whole numbers, rising, at which p is 0; p has whole numbers alone and a degree of 1 or more."""
    slopes = [p]
    while len(slopes[-1]) > 2:
        slopes.append(poly_slope(slopes[-1]))
    near = []
    for slope in reversed(slopes):
        near = near_roots(slope, near)
    places = sorted(set(near + [place + 1 for place in near]))
    return [place for place in places if whole_at(p, place) == 0]


def roots_of(p):
    """The fractions, rising, at which p is 0; p has 1 at its highest power and a degree of 1 or more."""
    factor = common_bottom(p)
    # a fraction that is a root of whole numbers with 1 at the highest power is whole itself
    return [lowest(place, factor) for place in whole_roots(stretched(p, factor))]


def times_root(p, root):
    """How often the fraction is a root of p, which isn't 0."""
    divisor = [ratio_minus(root), ONE]
    count = 0
    divided = poly_divided(p, divisor)
    while divided[1] == []:
        count = count + 1
        divided = poly_divided(divided[0], divisor)
    return count

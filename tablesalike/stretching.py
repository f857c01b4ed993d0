"""What the forms of a table tell of the vectors that it only stretches, and of its least polynomial."""

from tablesalike.poly import poly_common, poly_slope
from tablesalike.ratio import ONE
from tablesalike.roots import roots_of, times_root


def stretch_at(forms, root):
    """The root, how often it's one of the table's polynomial, how many vectors stretched by it don't hang on others."""
    # the forms multiply to the table's polynomial; of the table of a form with that root, one vector is stretched so
    times = [times_root(form, root) for form in forms]
    return (root, sum(times), len([count for count in times if count > 0]))


def stretches_of(forms):
    """For each fraction by which some vector other than 0 is stretched, rising, what stretch_at tells."""
    # each form goes into the last one, so that has all the roots
    return [stretch_at(forms, root) for root in roots_of(forms[-1])]


def simple_of(least):
    """0 if a square goes into the polynomial; else 2 if all its roots are fractions; else 1."""
    # a square goes into it just if the polynomial and its slope have more than a number in common
    if poly_common(least, poly_slope(least)) != [ONE]:
        return 0
    return 2 if len(roots_of(least)) == len(least) - 1 else 1

"""The fractions at which a polynomial is 0, as the package finds them."""

import itertools
import random
import unittest
from fractions import Fraction

import helper
from tablesalike.poly import poly_slope
from tablesalike.roots import roots_of, times_root, whole_roots


def kept(numbers):
    """As the package keeps a polynomial."""
    return [(Fraction(number).numerator, Fraction(number).denominator) for number in numbers]


def found(numbers):
    return [Fraction(*root) for root in roots_of(kept(numbers))]


def product_of_roots(roots, more=(1,)):
    return helper.product_of([[Fraction(number) for number in more]] + [[-Fraction(root), Fraction(1)] for root in roots])


# none has a root that is a fraction; some have real ones
MORE = (
    (1, 0, 1), (-2, 0, 1), (-1000003, 0, 1), ("1/3", "1/2", 1), (-2, 0, 0, 1), (1, -3, 0, 1), (1, 0, 0, 0, 1),
    (1, 0, -10, 0, 1), (4, 0, -4, 0, 1),
)


class Roots(unittest.TestCase):
    def check(self, roots, more=(1,)):
        p = product_of_roots(roots, more)
        self.assertEqual(found(p), sorted(set(roots)), (roots, more))
        for root in set(roots):
            self.assertEqual(times_root(kept(p), (root.numerator, root.denominator)), roots.count(root))

    def test_whole_numbers_beside_one_another(self):
        for size in range(1, 5):
            for roots in itertools.combinations_with_replacement(range(-3, 4), size):
                self.check([Fraction(root) for root in roots])

    def test_beside_roots_that_are_no_fractions(self):
        some = [Fraction(text) for text in ("-2", "0", "1", "1/2", "-7/5", "1000")]
        for more in MORE:
            for count in range(6 - len(more)):
                for roots in itertools.combinations_with_replacement(some, count):
                    self.check(list(roots), more)

    def test_near_a_root_that_is_no_fraction(self):
        # the square root of 2 is about 1393/985, that of 1000003 about 2000003/2000
        for root in ("1393/985", "-1393/985", "577/408", "1000", "1001", "-1000", "-1001", "2000003/2000"):
            for more in ((-2, 0, 1), (-1000003, 0, 1)):
                self.check([Fraction(root)], more)
                self.check([Fraction(root)] * 2, more)

    def test_near_one_another(self):
        one = Fraction(999999, 999998)
        for other in (Fraction(999998, 999997), Fraction(1), one + Fraction(1, 10 ** 24), -one, Fraction(0)):
            for roots in ([one, other], [one, other, other], [one, one, other], [one, one, other, other], [one] * 3 + [other]):
                self.check(roots)

    def test_far_apart(self):
        far = [Fraction(10 ** 24), Fraction(1, 10 ** 24), Fraction(-10 ** 24), Fraction(-1, 10 ** 24), Fraction(0)]
        for size in range(1, 5):
            for roots in itertools.combinations(far, size):
                self.check(list(roots))

    def test_some_of_many_digits(self):
        source = random.Random(8)
        for size in (1, 2, 3, 4) * 10:
            roots = [Fraction(source.randint(-10 ** 30, 10 ** 30), source.randint(1, 10 ** 30)) for _ in range(size)]
            self.check(roots)

    def test_every_short_polynomial(self):
        for size, most in ((1, 9), (2, 9), (3, 5), (4, 3)):
            for numbers in itertools.product(range(-most, most + 1), repeat=size):
                p = list(numbers) + [1]
                # a root goes into the lowest number that isn't 0
                expected = [place for place in range(-most, most + 1) if helper.at_place(p, place) == 0]
                self.assertEqual(whole_roots(kept(p)), expected, p)

    def test_polynomials_of_fractions(self):
        for size in (1, 2, 3):
            for numbers in itertools.product(("0", "1", "-1/2", "2/3", "-3/4", "1/6"), repeat=size):
                p = [Fraction(number) for number in numbers] + [Fraction(1)]
                self.assertEqual(found(p), helper.fraction_roots(p), p)

    def test_slopes(self):
        self.assertEqual(poly_slope([]), [])
        self.assertEqual(poly_slope(kept((5,))), [])
        self.assertEqual(poly_slope(kept((5, "1/2"))), kept(("1/2",)))
        self.assertEqual(poly_slope(kept((1, 0, "-3/2", 0, 1))), kept((0, -3, 0, 4)))

    def test_how_often(self):
        self.assertEqual(times_root(kept((1,)), (0, 1)), 0)
        self.assertEqual(times_root(kept((0, 1)), (0, 1)), 1)
        self.assertEqual(times_root(kept((0, 0, 5)), (0, 1)), 2)
        self.assertEqual(times_root(kept((0, 0, 1, 1)), (-1, 1)), 1)
        self.assertEqual(times_root(kept((1, 0, 1)), (1, 1)), 0)


if __name__ == "__main__":
    unittest.main()

"""The text of a number and of a polynomial, in all its shapes, and reckoning with polynomials."""

import itertools
import unittest
from fractions import Fraction

import helper
from tablesalike.poly import common_of_all, poly_common, poly_divided, poly_product, poly_sum
from tablesalike.ratio import lowest, ratio_quotient, ratio_sum
from tablesalike.writing import answer, number_text, poly_text

SHAPES = {
    "0": (),
    "7": (7,),
    "-7": (-7,),
    "1": (1,),
    "-1": (-1,),
    "3/2": ("3/2",),
    "-3/2": ("-3/2",),
    "x": (0, 1),
    "-x": (0, -1),
    "2*x": (0, 2),
    "-2*x": (0, -2),
    "1/2*x": (0, "1/2"),
    "-1/2*x": (0, "-1/2"),
    "x + 1": (1, 1),
    "x - 1": (-1, 1),
    "-x + 1": (1, -1),
    "-x - 1": (-1, -1),
    "x^2": (0, 0, 1),
    "-x^2": (0, 0, -1),
    "3/2*x^2 - x + 1": (1, -1, "3/2"),
    "-3/2*x^2 + x - 1/9": ("-1/9", 1, "-3/2"),
    "x^2 + 10*x": (0, 10, 1),
    "x^3 - 1": (-1, 0, 0, 1),
    "x^4 - x^3 + x^2 - x + 1": (1, -1, 1, -1, 1),
    "-5*x^4 + 2/3*x^2": (0, 0, "2/3", 0, -5),
    "x^10 - 11*x^8": (0, 0, 0, 0, 0, 0, 0, 0, -11, 0, 1),
}


def poly(numbers):
    """As the package keeps a polynomial."""
    pairs = [(Fraction(number).numerator, Fraction(number).denominator) for number in numbers]
    while pairs and pairs[-1][0] == 0:
        pairs.pop()
    return pairs


class Texts(unittest.TestCase):
    def test_shapes(self):
        for text, numbers in SHAPES.items():
            self.assertEqual(poly_text(poly(numbers)), text)

    def test_all_of_some_numbers(self):
        numbers = ("0", "1", "-1", "2", "-1/2")
        for chosen in itertools.product(numbers, repeat=4):
            fractions = [Fraction(number) for number in chosen]
            self.assertEqual(poly_text(poly(chosen)), helper.written(fractions))

    def test_numbers(self):
        for text in ("0", "1", "-1", "10", "1/2", "-1/2", "22/7"):
            number = Fraction(text)
            self.assertEqual(number_text((number.numerator, number.denominator)), text)

    def test_answers(self):
        self.assertEqual(answer(0, []), [0])
        self.assertEqual(answer(3, ["x", "", "-1"]), [3, 1, 120, 0, 2, 45, 49])


class Reckoning(unittest.TestCase):
    def test_one_tuple_for_each_fraction(self):
        self.assertEqual(lowest(4, -6), (-2, 3))
        self.assertEqual(lowest(-4, -6), (2, 3))
        self.assertEqual(lowest(0, -6), (0, 1))
        self.assertEqual(ratio_sum((1, 2), (-1, 2)), (0, 1))
        self.assertEqual(ratio_quotient((1, 2), (-3, 4)), (-2, 3))

    def test_the_highest_powers_may_fall_out(self):
        self.assertEqual(poly_sum(poly((1, 2)), poly((0, -2))), poly((1,)))
        self.assertEqual(poly_sum(poly((1, 2)), poly((-1, -2))), [])
        self.assertEqual(poly_product(poly((1, 2)), []), [])

    def test_quotient_and_rest(self):
        some = [poly(p) for p in itertools.product((0, 1, -2, "1/3"), repeat=3)]
        for p, q in itertools.product(some, repeat=2):
            if q:
                quotient, rest = poly_divided(p, q)
                self.assertEqual(poly_sum(poly_product(quotient, q), rest), p)
                self.assertLess(len(rest), max(len(q), 1))

    def test_in_common(self):
        self.assertEqual(poly_common([], []), [])
        self.assertEqual(poly_common([], poly((4, 2))), poly((2, 1)))
        self.assertEqual(poly_common(poly((4, 2)), []), poly((2, 1)))
        self.assertEqual(poly_common(poly((4, 2)), poly((3,))), poly((1,)))
        self.assertEqual(poly_common(poly((-1, 0, 1)), poly((2, -4, 2))), poly((-1, 1)))
        self.assertEqual(common_of_all([[], poly((-1, 0, 2, 0, -1)), poly((-1, 0, 3)), poly((5, 1))]), poly((1,)))
        self.assertEqual(common_of_all([[], poly((0, -1, 0, 1)), poly((0, 0, 3, 3))]), poly((0, 1, 1)))


if __name__ == "__main__":
    unittest.main()

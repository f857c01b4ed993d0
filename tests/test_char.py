"""char: 2, then a table's polynomial, then its least polynomial."""

import unittest

import helper
from tablesalike.tables import char, forms


def answered(words):
    return helper.shown(char(helper.told(words)))


class OrdinaryTables(unittest.TestCase):
    def check(self, words, polynomial, least=None):
        self.assertEqual(answered(words), [2, polynomial, least or polynomial])

    def test_the_list_byte_by_byte(self):
        self.assertEqual(char([[45, 50]]), [2, 5, 120, 32, 43, 32, 50, 5, 120, 32, 43, 32, 50])
        self.assertEqual(char(helper.told("0 0 0 0")), [2, 3, 120, 94, 50, 1, 120])

    def test_one_row(self):
        self.check("0", "x")
        self.check("1", "x - 1")
        self.check("-1", "x + 1")
        self.check("5/3", "x - 5/3")
        self.check("-999999", "x + 999999")
        self.check("1/999999", "x - 1/999999")

    def test_two_rows(self):
        self.check("1 2 3 4", "x^2 - 5*x - 2")
        self.check("0 1 1 0", "x^2 - 1")
        self.check("0 1 -1 1", "x^2 - x + 1")
        self.check("0 1 1 -1", "x^2 + x - 1")
        self.check("1/2 1/3 -1/5 -2", "x^2 + 3/2*x - 14/15")
        self.check("0 1 0 3/2", "x^2 - 3/2*x")

    def test_three_rows(self):
        self.check("1 2 3 4 5 6 7 8 10", "x^3 - 16*x^2 - 12*x + 3")
        self.check("0 0 1/7 1 0 -1 0 1 1", "x^3 - x^2 + x - 1/7")
        self.check("4 -2 -2 1 1 -1 1 -1 1", "x^3 - 6*x^2 + 12*x - 8", "x^2 - 4*x + 4")
        self.check("1 1 1 1 1 1 1 1 1", "x^3 - 3*x^2", "x^2 - 3*x")

    def test_four_rows(self):
        self.check("0 0 0 -1 1 0 0 0 0 1 0 0 0 0 1 0", "x^4 + 1")
        self.check("0 0 0 6/5 1 0 0 -1 0 1 0 1 0 0 1 -2", "x^4 + 2*x^3 - x^2 + x - 6/5")
        self.check("0 -1 0 0 1 0 0 0 0 0 0 -1 0 0 1 0", "x^4 + 2*x^2 + 1", "x^2 + 1")
        self.check("0 1 1 1 1 0 1 1 1 1 0 1 1 1 1 0", "x^4 - 6*x^2 - 8*x - 3", "x^2 - 2*x - 3")

    def test_unit_tables(self):
        polynomials = ("x - 1", "x^2 - 2*x + 1", "x^3 - 3*x^2 + 3*x - 1", "x^4 - 4*x^3 + 6*x^2 - 4*x + 1")
        for size in range(1, 5):
            self.check(helper.words_of(helper.unit(size)), polynomials[size - 1], "x - 1")

    def test_tables_of_0s(self):
        for size, polynomial in enumerate(("x", "x^2", "x^3", "x^4"), start=1):
            self.check(" ".join(["0"] * size * size), polynomial, "x")

    def test_diagonals(self):
        self.check("2 0 0 2", "x^2 - 4*x + 4", "x - 2")
        self.check("2 0 0 -2", "x^2 - 4")
        self.check("2 0 0 0 3 0 0 0 2", "x^3 - 7*x^2 + 16*x - 12", "x^2 - 5*x + 6")
        self.check("1/2 0 0 0 1/2 0 0 0 1/2", "x^3 - 3/2*x^2 + 3/4*x - 1/8", "x - 1/2")
        self.check("2 0 0 0 0 2 0 0 0 0 3 0 0 0 0 3", "x^4 - 10*x^3 + 37*x^2 - 60*x + 36", "x^2 - 5*x + 6")

    def test_1s_beside_the_diagonal(self):
        self.check("5 1 0 5", "x^2 - 10*x + 25")
        self.check("0 1 0 0 0 0 0 0 0", "x^3", "x^2")
        self.check("0 1 0 0 0 0 0 0 0 0 0 1 0 0 0 0", "x^4", "x^2")
        self.check("0 1 0 0 0 0 1 0 0 0 0 0 0 0 0 0", "x^4", "x^3")
        self.check("0 1 0 0 0 0 1 0 0 0 0 1 0 0 0 0", "x^4")


class ByOtherWays(unittest.TestCase):
    def check(self, rows):
        words = helper.words_of(rows)
        expected = [2, helper.written(helper.polynomial(rows)), helper.written(helper.least_polynomial(rows))]
        self.assertEqual(answered(words), expected, words)
        self.assertEqual(helper.shown(forms(helper.told(words)))[-1], expected[2], words)

    def test_sample_tables(self):
        for rows in helper.sample_tables():
            self.check(rows)


if __name__ == "__main__":
    unittest.main()

"""forms: how many; then they."""

import itertools
import unittest

import helper
from tablesalike.tables import forms


def answered(words):
    return helper.shown(forms(helper.told(words)))


class OrdinaryTables(unittest.TestCase):
    def check(self, words, *texts):
        self.assertEqual(answered(words), [len(texts)] + list(texts))

    def test_the_list_byte_by_byte(self):
        self.assertEqual(forms([[49]]), [1, 5, 120, 32, 45, 32, 49])
        self.assertEqual(forms(helper.told("0 0 0 0")), [2, 1, 120, 1, 120])

    def test_one_row(self):
        self.check("0", "x")
        self.check("1", "x - 1")
        self.check("-1", "x + 1")
        self.check("7", "x - 7")
        self.check("3/2", "x - 3/2")
        self.check("-3/2", "x + 3/2")
        self.check("999999", "x - 999999")
        self.check("-999999/999998", "x + 999999/999998")

    def test_two_rows(self):
        self.check("1 2 3 4", "x^2 - 5*x - 2")
        self.check("0 -1 1 0", "x^2 + 1")
        self.check("1 1 1 0", "x^2 - x - 1")
        self.check("-1 1 -1 0", "x^2 + x + 1")
        self.check("1/2 1/3 -1/5 -2", "x^2 + 3/2*x - 14/15")
        self.check("2 1 -4 -2", "x^2")

    def test_three_rows(self):
        self.check("1 2 3 4 5 6 7 8 10", "x^3 - 16*x^2 - 12*x + 3")
        self.check("1/2 0 1 -1 2/3 0 0 0 -5", "x^3 + 23/6*x^2 - 11/2*x + 5/3")
        self.check("0 0 2 1 0 0 0 1 0", "x^3 - 2")
        self.check("4 -2 -2 1 1 -1 1 -1 1", "x - 2", "x^2 - 4*x + 4")

    def test_four_rows(self):
        self.check("0 0 0 -1 1 0 0 0 0 1 0 0 0 0 1 0", "x^4 + 1")
        self.check("0 -1 0 0 1 0 0 0 0 0 0 -1 0 0 1 0", "x^2 + 1", "x^2 + 1")
        self.check("0 1 1 1 1 0 1 1 1 1 0 1 1 1 1 0", "x + 1", "x + 1", "x^2 - 2*x - 3")
        self.check("1/2 0 0 0 0 1/2 0 0 0 0 -1/3 0 0 0 0 2", "x - 1/2", "x^3 - 13/6*x^2 + 1/6*x + 1/3")

    def test_unit_tables(self):
        for size in range(1, 5):
            self.check(helper.words_of(helper.unit(size)), *(["x - 1"] * size))

    def test_tables_of_0s(self):
        for size in range(1, 5):
            self.check(" ".join(["0"] * size * size), *(["x"] * size))

    def test_diagonals(self):
        self.check("2 0 0 3", "x^2 - 5*x + 6")
        self.check("2 0 0 2", "x - 2", "x - 2")
        self.check("2 0 0 0 2 0 0 0 3", "x - 2", "x^2 - 5*x + 6")
        self.check("2 0 0 0 3 0 0 0 2", "x - 2", "x^2 - 5*x + 6")
        self.check("2 0 0 0 0 2 0 0 0 0 3 0 0 0 0 3", "x^2 - 5*x + 6", "x^2 - 5*x + 6")
        self.check("2 0 0 0 0 2 0 0 0 0 2 0 0 0 0 0", "x - 2", "x - 2", "x^2 - 2*x")
        self.check("1 0 0 0 0 2 0 0 0 0 3 0 0 0 0 4", "x^4 - 10*x^3 + 35*x^2 - 50*x + 24")

    def test_1s_beside_the_diagonal(self):
        self.check("5 1 0 5", "x^2 - 10*x + 25")
        self.check("5 0 1 5", "x^2 - 10*x + 25")
        self.check("0 1 0 0 0 1 0 0 0", "x^3")
        self.check("0 1 0 0 0 0 0 0 0", "x", "x^2")
        self.check("0 1 0 0 0 0 0 0 0 0 0 1 0 0 0 0", "x^2", "x^2")
        self.check("0 1 0 0 0 0 1 0 0 0 0 0 0 0 0 0", "x", "x^3")
        self.check("0 1 0 0 0 0 0 0 0 0 0 0 0 0 0 0", "x", "x", "x^2")
        self.check("0 1 0 0 0 0 1 0 0 0 0 1 0 0 0 0", "x^4")
        self.check("1 1 0 0 0 1 0 0 0 0 1 0 0 0 0 2", "x - 1", "x^3 - 4*x^2 + 5*x - 2")


class ByOtherWays(unittest.TestCase):
    def check(self, rows):
        found = helper.forms(rows)
        expected = [len(found)] + [helper.written(form) for form in found]
        words = helper.words_of(rows)
        self.assertEqual(answered(words), expected, words)

    def test_sample_tables(self):
        for rows in helper.sample_tables():
            self.check(rows)


class ByOtherAxes(unittest.TestCase):
    """The forms of a table that is made of its forms, told by other axes, are these forms."""

    def test_chains_of_forms(self):
        for size, all_axes in helper.AXES.items():
            made = helper.chains(size)
            self.assertGreater(len(made), 2)
            for chain, axes in itertools.product(made, all_axes):
                rows = helper.by_other_axes(helper.plain(chain), axes)
                expected = [len(chain)] + [helper.written(form) for form in chain]
                self.assertEqual(answered(helper.words_of(rows)), expected)


if __name__ == "__main__":
    unittest.main()

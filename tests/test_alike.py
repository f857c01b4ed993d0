"""alike: 1 if two tables have the same forms, else 0."""

import itertools
import unittest

import helper
from tablesalike.tables import alike, char


def answered(n, a, b):
    return alike(n, helper.told(a) + helper.told(b))


def polynomials(words):
    """A table's polynomial and its least polynomial."""
    return helper.shown(char(helper.told(words)))[1:]


class WrittenOut(unittest.TestCase):
    def check(self, n, a, b, number):
        self.assertEqual(answered(n, a, b), [number], (a, b))
        self.assertEqual(answered(n, b, a), [number], (b, a))

    def same(self, n, a, b):
        self.check(n, a, b, 1)

    def other(self, n, a, b):
        self.check(n, a, b, 0)

    def other_by_the_same_polynomial(self, n, a, b):
        self.assertEqual(polynomials(a)[0], polynomials(b)[0])
        self.other(n, a, b)

    def other_by_the_same_least_polynomial(self, n, a, b):
        self.assertEqual(polynomials(a)[1], polynomials(b)[1])
        self.other(n, a, b)

    def test_one_row(self):
        texts = ("0", "1", "-1", "3/2", "-3/2", "2/3", "999999", "-999999", "1/999999", "999998/999999")
        for a, b in itertools.product(texts, repeat=2):
            self.check(1, a, b, int(a == b))

    def test_two_rows(self):
        self.same(2, "2 0 0 3", "3 0 0 2")
        self.same(2, "1 2 3 4", "1 3 2 4")
        self.same(2, "1 2 3 4", "0 2 1 5")
        self.same(2, "5 1 0 5", "5 0 -7/2 5")
        self.same(2, "0 -1 1 0", "1 -2 1 -1")
        self.same(2, "1/2 1 0 -1/3", "-1/3 0 5/7 1/2")
        self.other(2, "1 2 3 4", "1 2 3 5")
        self.other(2, "0 -1 1 0", "0 1 1 0")
        self.other(2, "1/2 0 0 1/3", "1/2 0 0 -1/3")

    def test_three_rows(self):
        self.same(3, "2 0 0 0 2 0 0 0 3", "3 0 0 0 2 0 0 0 2")
        self.same(3, "4 -2 -2 1 1 -1 1 -1 1", "2 1 0 0 2 0 0 0 2")
        self.same(3, "1 1 1 1 1 1 1 1 1", "0 0 0 0 3 0 0 0 0")
        self.same(3, "1/3 1/3 1/3 1/3 1/3 1/3 1/3 1/3 1/3", "1 0 0 0 0 0 0 0 0")
        self.other(3, "1 1 1 1 1 1 1 1 1", "0 0 0 0 2 0 0 0 0")
        self.other(3, "1 2 3 4 5 6 7 8 10", "1 2 3 4 5 6 7 8 9")

    def test_four_rows(self):
        self.same(4, "0 1 0 0 0 0 0 0 0 0 0 1 0 0 0 0", "0 0 1 0 0 0 0 1 0 0 0 0 0 0 0 0")
        self.same(4, "0 1 1 1 1 0 1 1 1 1 0 1 1 1 1 0", "3 0 0 0 0 -1 0 0 0 0 -1 0 0 0 0 -1")
        self.same(4, "1/2 0 0 0 0 1/2 0 0 0 0 -1/3 0 0 0 0 2", "2 0 0 0 5 1/2 0 0 0 0 1/2 0 0 0 -9/7 -1/3")
        self.other(4, "0 1 1 1 1 0 1 1 1 1 0 1 1 1 1 0", "3 0 0 0 0 3 0 0 0 0 -1 0 0 0 0 -1")
        self.other(4, "0 0 0 -1 1 0 0 0 0 1 0 0 0 0 1 0", "0 0 0 1 1 0 0 0 0 1 0 0 0 0 1 0")

    def test_the_same_polynomial(self):
        self.other_by_the_same_polynomial(2, "2 0 0 2", "2 1 0 2")
        self.other_by_the_same_polynomial(2, "0 0 0 0", "0 1 0 0")
        self.other_by_the_same_polynomial(2, "-1/2 0 0 -1/2", "-1/2 0 1 -1/2")
        self.other_by_the_same_polynomial(3, "2 0 0 0 2 0 0 0 3", "2 1 0 0 2 0 0 0 3")
        self.other_by_the_same_polynomial(3, "2 1 0 0 2 0 0 0 2", "2 1 0 0 2 1 0 0 2")
        self.other_by_the_same_polynomial(3, "1/3 0 0 0 1/3 0 0 0 1/3", "1/3 1 0 0 1/3 0 0 0 1/3")
        self.other_by_the_same_polynomial(4, "7 0 0 0 0 7 0 0 0 0 7 0 0 0 0 7", "7 0 0 0 0 7 0 0 0 0 7 1 0 0 0 7")
        self.other_by_the_same_polynomial(4, "1 0 0 0 0 1 0 0 0 0 2 0 0 0 0 2", "1 1 0 0 0 1 0 0 0 0 2 0 0 0 0 2")
        self.other_by_the_same_polynomial(4, "1 1 0 0 0 1 0 0 0 0 2 0 0 0 0 2", "1 0 0 0 0 1 0 0 0 0 2 1 0 0 0 2")
        self.other_by_the_same_polynomial(4, "0 -1 0 0 1 0 0 0 0 0 0 -1 0 0 1 0", "0 0 0 -1 1 0 0 0 0 1 0 -2 0 0 1 0")

    def test_the_same_least_polynomial(self):
        # tables of 1 and 2 rows that have the same least polynomial have the same forms
        self.other_by_the_same_least_polynomial(3, "2 0 0 0 2 0 0 0 3", "2 0 0 0 3 0 0 0 3")
        self.other_by_the_same_least_polynomial(3, "1/2 0 0 0 0 0 0 0 0", "1/2 0 0 0 1/2 0 0 0 0")
        self.other_by_the_same_least_polynomial(4, "2 0 0 0 0 2 0 0 0 0 2 0 0 0 0 3", "2 0 0 0 0 2 0 0 0 0 3 0 0 0 0 3")
        self.other_by_the_same_least_polynomial(4, "2 1 0 0 0 2 0 0 0 0 2 0 0 0 0 2", "2 1 0 0 0 2 0 0 0 0 2 1 0 0 0 2")

    def test_the_same_polynomial_and_the_same_least_polynomial(self):
        two = "0 1 0 0 0 0 0 0 0 0 0 1 0 0 0 0"
        one = "0 1 0 0 0 0 0 0 0 0 0 0 0 0 0 0"
        self.other_by_the_same_polynomial(4, two, one)
        self.other_by_the_same_least_polynomial(4, two, one)


def near(first, second):
    """Whether two lists of forms have the same polynomial or the same least polynomial."""
    return first[-1] == second[-1] or helper.product_of(first) == helper.product_of(second)


class ByOtherAxes(unittest.TestCase):
    """Tables made of their forms and told by other axes are alike just if the forms are the same."""

    def check(self, size, first, second):
        axes = helper.AXES[size]
        a = helper.by_other_axes(helper.plain(first), axes[0])
        b = helper.by_other_axes(helper.plain(second), axes[-1])
        answer = answered(size, helper.words_of(a), helper.words_of(b))
        self.assertEqual(answer, [int(first == second)], (a, b))

    def test_all_the_same(self):
        for size in helper.AXES:
            for chain in helper.chains(size):
                self.check(size, chain, chain)

    def test_same_polynomials(self):
        for size in (3, 4):
            pairs = [pair for pair in itertools.permutations(helper.chains(size), 2) if near(*pair)]
            self.assertGreater(len(pairs), 10)
            for first, second in pairs:
                self.check(size, first, second)

    def test_neighbours(self):
        for size in helper.AXES:
            made = helper.chains(size)
            for first, second in zip(made, made[1:]):
                self.check(size, first, second)

    def test_sample_tables(self):
        for rows in helper.sample_tables():
            words = helper.words_of(rows)
            self.assertEqual(answered(len(rows), words, words), [1])

    def test_tables_of_three_rows(self):
        made = list(helper.tables_of_three_rows_of_0s_and_1s())
        for a, b in zip(made, made[1:] + made[:1]):
            expected = [int(helper.forms(a) == helper.forms(b))]
            self.assertEqual(answered(3, helper.words_of(a), helper.words_of(b)), expected)

    def test_rows_for_columns(self):
        for rows in helper.some_tables_of_four_rows():
            turned = helper.turned(rows)
            self.assertEqual(answered(4, helper.words_of(rows), helper.words_of(turned)), [1])


if __name__ == "__main__":
    unittest.main()

"""simple: 0 if a square goes into a table's least polynomial; else 2 if all its roots are fractions; else 1."""

import itertools
import unittest
from fractions import Fraction

import helper
from tablesalike.tables import char, simple


def answered(words):
    return simple(helper.told(words))


class WrittenOut(unittest.TestCase):
    def check(self, number, *tables):
        for words in tables:
            self.assertEqual(answered(words), [number], words)

    def test_one_row(self):
        self.check(2, "0", "1", "-1", "7", "3/2", "-3/2", "999999", "-999999", "1/999999", "-999998/999999")

    def test_two_rows(self):
        self.check(0, "2 1 0 2", "0 1 0 0", "2 0 -1/3 2", "2 1 -4 -2", "1/2 0 1 1/2")
        self.check(1, "0 -1 1 0", "0 2 1 0", "1 2 3 4", "0 -1 1 -1", "1/2 1/3 -1/5 -2", "0 1/2 1 0")
        self.check(2, "2 0 0 3", "2 0 0 2", "1 1 1 1", "0 1 1 0", "0 1/4 1 0", "1/2 5 0 -1/3", "0 0 0 0", "1 0 0 1")

    def test_three_rows(self):
        self.check(0, "2 1 0 0 2 0 0 0 3", "2 1 0 0 2 0 0 0 2", "2 1 0 0 2 1 0 0 2", "4 -2 -2 1 1 -1 1 -1 1")
        self.check(1, "0 0 1 1 0 0 0 1 0", "0 0 2 1 0 0 0 1 0", "1 2 3 4 5 6 7 8 9", "0 -1 0 1 0 0 0 0 -2/7")
        self.check(2, "1 0 0 0 2 0 0 0 3", "1 1 1 1 1 1 1 1 1", "1 5 7 0 2 5/3 0 0 3", "1/3 0 0 0 1/3 0 0 0 1/3")

    def test_four_rows(self):
        self.check(0, "7 1 0 0 0 7 0 0 0 0 7 0 0 0 0 7", "2 1 0 0 0 2 0 0 0 0 3 0 0 0 0 3", "0 1 0 0 0 0 1 0 0 0 0 1 0 0 0 0")
        self.check(1, "0 0 0 -1 1 0 0 0 0 1 0 0 0 0 1 0", "0 0 0 1 1 0 0 0 0 1 0 0 0 0 1 0", "0 2 0 0 1 0 0 0 0 0 1 0 0 0 0 2")
        self.check(2, "4 0 0 0 0 -3 0 0 0 0 2 0 0 0 0 -1", "0 1 1 1 1 0 1 1 1 1 0 1 1 1 1 0", "1/2 0 0 0 0 1/2 0 0 0 0 -1/3 0 0 0 0 2")

    def test_a_square_whose_roots_are_no_fractions(self):
        self.check(0, "0 0 0 -1 1 0 0 0 0 1 0 -2 0 0 1 0")
        self.check(0, "0 -1 1 0 1 0 0 1 0 0 0 -1 0 0 1 0")
        self.check(0, "0 0 0 -4 1 0 0 0 0 1 0 4 0 0 1 0")
        self.check(0, "0 0 0 -1/4 1 0 0 0 0 1 0 1 0 0 1 0")

    def test_a_square_beside_roots_that_are_no_fractions(self):
        self.check(0, "0 -1 0 0 1 0 0 0 0 0 5 1 0 0 0 5", "0 2 0 0 1 0 0 0 0 0 -1/2 0 0 0 3 -1/2")

    def test_a_root_several_times_and_no_square(self):
        self.check(1, "0 -1 0 0 1 0 0 0 0 0 0 -1 0 0 1 0", "0 2 0 0 1 0 0 0 0 0 0 2 0 0 1 0")
        self.check(1, "0 2 0 0 1 0 0 0 0 0 5/9 0 0 0 0 5/9")
        self.check(2, "2 0 0 0 2 0 0 0 3", "1/2 0 0 1/2", "2 0 0 0 0 2 0 0 0 0 3 0 0 0 0 3")

    def test_unit_tables_and_tables_of_0s(self):
        for n in range(1, 5):
            self.check(2, helper.words_of(helper.unit(n)), "0 " * n * n)

    def test_six_digits_everywhere(self):
        c = [Fraction(text) for text in ("999998/999983", "-999961/999979", "123457/999961", "-654321/999959")]
        a, b, e, d = c
        for number, rows in (
            (2, [[a]]), (2, [[a, b], [b, a]]), (1, [[a, b], [-b, a]]), (1, [[a, b], [e, d]]),
            (2, [[a, b, b], [b, a, b], [b, b, a]]), (1, [[a, b, e], [e, a, b], [b, e, a]]), (2, [[b] * 3] * 3),
            (2, [[c[i ^ j] for j in range(4)] for i in range(4)]), (1, [[c[(j - i) % 4] for j in range(4)] for i in range(4)]),
            (1, [[a, -b, -e, -d], [b, a, -d, e], [e, d, a, -b], [d, -e, b, a]]), (2, [[d] * 4] * 4),
            # rows that are the same and add up to 0: times itself such a table is 0
            (0, [[a, -a]] * 2), (0, [[e, e, -2 * e]] * 3), (0, [[a, -a, d, -d]] * 4),
        ):
            self.check(number, helper.words_of(rows))


class ByOtherWays(unittest.TestCase):
    def expected(self, rows):
        """By how many different roots there are, and how many of them are fractions."""
        degree = len(helper.least_polynomial(rows)) - 1
        if helper.different_roots(rows) < degree:
            return 0
        return 2 if len(helper.fraction_roots(helper.polynomial(rows))) == degree else 1

    def check(self, rows):
        number = self.expected(rows)
        self.assertEqual(answered(helper.words_of(rows)), [number], rows)
        return number

    def test_forms_told_by_other_axes(self):
        found = {size: set() for size in helper.AXES}
        for size, all_axes in helper.AXES.items():
            for chain, axes in itertools.product(helper.chains(size), all_axes):
                rows = helper.by_other_axes(helper.plain(chain), axes)
                found[size].add(self.check(rows))
                self.assertEqual(answered(helper.words_of(rows)), [self.by_factors(chain[-1])], rows)
        self.assertEqual(found, {1: {2}, 2: {0, 1, 2}, 3: {0, 1, 2}, 4: {0, 1, 2}})

    def by_factors(self, least):
        """Of a product of some of FACTORS."""
        for picked in itertools.chain(*(itertools.combinations(helper.FACTORS, count) for count in range(1, 5))):
            if helper.product_of(picked) == least:
                return 2 if all(len(factor) == 2 for factor in picked) else 1
        return 0

    def test_sample_tables(self):
        numbers = set()
        for rows in helper.tables_of_short_numbers():
            numbers.add((len(rows), self.check(rows)))
        self.assertEqual(numbers, set(itertools.product((2, 3, 4), (0, 1, 2))))

    def test_the_least_polynomial_counts(self):
        """Two tables of the same polynomial, of which only one has the square in its least polynomial."""
        for one, other in (
            ("2 0 0 2", "2 1 0 2"), ("2 0 0 0 2 0 0 0 3", "2 1 0 0 2 0 0 0 3"),
            ("0 -1 0 0 1 0 0 0 0 0 0 -1 0 0 1 0", "0 0 0 -1 1 0 0 0 0 1 0 -2 0 0 1 0"),
        ):
            self.assertEqual(helper.shown(char(helper.told(one)))[1], helper.shown(char(helper.told(other)))[1])
            self.assertGreater(answered(one)[0], 0)
            self.assertEqual(answered(other), [0])


if __name__ == "__main__":
    unittest.main()

"""vector: 1, then the least polynomial of a vector."""

import itertools
import unittest
from fractions import Fraction

import helper
from tablesalike.tables import char, vector


def answered(n, a, v):
    return helper.shown(vector(n, helper.told(a) + helper.told(v)))


class WrittenOut(unittest.TestCase):
    def check(self, n, a, v, polynomial):
        self.assertEqual(answered(n, a, v), [1, polynomial], (a, v))

    def test_the_list_byte_by_byte(self):
        self.assertEqual(vector(1, [[49], [48]]), [1, 1, 49])
        self.assertEqual(vector(1, [[49], [49]]), [1, 5, 120, 32, 45, 32, 49])
        self.assertEqual(vector(2, helper.told("0 0 1 0 1 0")), [1, 3, 120, 94, 50])

    def test_the_vector_0(self):
        for n in range(1, 5):
            for text in ("0", "1", "-3/2", "999999"):
                self.check(n, " ".join([text] * n * n), " ".join(["0"] * n), "1")

    def test_one_row(self):
        self.check(1, "0", "1", "x")
        self.check(1, "7", "-1/2", "x - 7")
        self.check(1, "-7/3", "999999", "x + 7/3")
        self.check(1, "7", "0", "1")

    def test_two_rows(self):
        self.check(2, "2 0 0 3", "1 0", "x - 2")
        self.check(2, "2 0 0 3", "0 -1/2", "x - 3")
        self.check(2, "2 0 0 3", "1 1", "x^2 - 5*x + 6")
        self.check(2, "2 1 0 2", "1 0", "x - 2")
        self.check(2, "2 1 0 2", "0 1", "x^2 - 4*x + 4")
        self.check(2, "1 2 3 4", "1 0", "x^2 - 5*x - 2")
        self.check(2, "1/2 1/3 -1/5 -2", "2/7 1", "x^2 + 3/2*x - 14/15")
        self.check(2, "0 -1 1 0", "5 0", "x^2 + 1")
        self.check(2, "1 1 1 1", "1 -1", "x")

    def test_table_times_vector_not_vector_times_table(self):
        self.check(2, "0 1 0 0", "1 0", "x")
        self.check(2, "0 1 0 0", "0 1", "x^2")
        self.check(2, "1 5 0 2", "5 1", "x - 2")
        self.check(2, "1 5 0 2", "0 1", "x^2 - 3*x + 2")

    def test_three_rows(self):
        self.check(3, "1 0 0 0 2 0 0 0 3", "0 0 4", "x - 3")
        self.check(3, "1 0 0 0 2 0 0 0 3", "1 0 4", "x^2 - 4*x + 3")
        self.check(3, "1 0 0 0 2 0 0 0 3", "1 1 1", "x^3 - 6*x^2 + 11*x - 6")
        self.check(3, "1 0 0 0 1 0 0 0 3", "1 1 1", "x^2 - 4*x + 3")
        self.check(3, "0 1 0 0 0 1 0 0 0", "0 0 1", "x^3")
        self.check(3, "0 1 0 0 0 1 0 0 0", "1 1/2 0", "x^2")
        self.check(3, "0 0 1 1 0 0 0 1 0", "1 1 1", "x - 1")
        self.check(3, "0 0 1 1 0 0 0 1 0", "1 -1 0", "x^2 + x + 1")

    def test_four_rows(self):
        self.check(4, "1/2 0 0 0 0 1/2 0 0 0 0 -1/3 0 0 0 0 2", "1 1 0 0", "x - 1/2")
        self.check(4, "1/2 0 0 0 0 1/2 0 0 0 0 -1/3 0 0 0 0 2", "0 1 3 0", "x^2 - 1/6*x - 1/6")
        self.check(4, "1/2 0 0 0 0 1/2 0 0 0 0 -1/3 0 0 0 0 2", "1 1 1 1", "x^3 - 13/6*x^2 + 1/6*x + 1/3")
        self.check(4, "0 0 0 -1 1 0 0 0 0 1 0 0 0 0 1 0", "0 0 0 1", "x^4 + 1")
        self.check(4, "0 0 0 1 1 0 0 0 0 1 0 0 0 0 1 0", "1 0 -1 0", "x^2 + 1")
        self.check(4, "0 0 0 1 1 0 0 0 0 1 0 0 0 0 1 0", "1 0 0 0", "x^4 - 1")
        self.check(4, "0 0 0 1 1 0 0 0 0 1 0 0 0 0 1 0", "1 0 0 -1", "x^3 + x^2 + x + 1")

    def test_tables_of_0s_and_unit_tables(self):
        for n in range(1, 5):
            for v in ("1 " * n, "0 " * (n - 1) + "-2/3"):
                self.check(n, "0 " * n * n, v, "x")
                self.check(n, helper.words_of(helper.unit(n)), v, "x - 1")


def vectors_of(size):
    """Vectors with and without 0s, of whole numbers and of fractions."""
    return [list(map(Fraction, v)) for v in itertools.product(("0", "1", "-2/3"), repeat=size)]


class ByOtherWays(unittest.TestCase):
    def check(self, rows, v):
        """The polynomial that is told gives 0, and no polynomial of a lower degree does."""
        size = len(rows)
        first, text = answered(size, helper.words_of(rows), helper.words_of([v]))
        lines = [v]
        for _ in range(size):
            lines.append(helper.times_vector(rows, lines[-1]))
        degree = helper.rank(lines)
        p = self.solved(lines[:degree], lines[degree])
        self.assertEqual((first, text), (1, helper.written(p)), (rows, v))
        self.assertEqual(helper.times_vector(helper.polynomial_at(p, rows), v), [0] * size)
        return degree

    def solved(self, lines, last):
        """The numbers, with 1 behind them, that make the lines and the last one add up to 0."""
        columns = list(zip(*lines)) if lines else []
        for chosen in itertools.combinations(range(len(last)), len(lines)):
            turned = helper.inverse([columns[at] for at in chosen])
            if turned is not None:
                return [-x for x in helper.times_vector(turned, [last[at] for at in chosen])] + [Fraction(1)]
        raise AssertionError("the lines hang on one another")

    def test_forms_told_by_other_axes(self):
        degrees = set()
        for size, all_axes in helper.AXES.items():
            for chain in helper.chains(size)[::3]:
                rows = helper.by_other_axes(helper.plain(chain), all_axes[-1])
                for v in vectors_of(size)[::size]:
                    degrees.add((size, self.check(rows, v)))
        self.assertEqual(degrees, {(size, degree) for size in range(1, 5) for degree in range(size + 1)})

    def test_small_tables(self):
        for rows in helper.small_tables_of_two_rows():
            for v in ([1, 0], [0, 1], [1, -1], [2, Fraction(1, 2)]):
                self.check(rows, v)

    def test_tables_of_four_rows(self):
        for rows in helper.some_tables_of_four_rows():
            for v in ([1, 0, 0, 0], [0, 0, 1, Fraction(-1, 2)], [1, 2, 3, 4]):
                self.check(rows, v)

    def test_long_numbers(self):
        for rows in helper.tables_of_long_numbers():
            self.check(rows, [Fraction(999999 - k, 999979 + k) for k in range(len(rows))])

    def test_the_first_axis_of_the_table_of_a_polynomial(self):
        for size in helper.AXES:
            for chain in helper.chains(size):
                if len(chain) == 1:
                    words = helper.words_of(helper.plain(chain))
                    first_axis = " ".join(["1"] + ["0"] * (size - 1))
                    least = helper.shown(char(helper.told(words)))[2]
                    self.assertEqual(answered(size, words, first_axis), [1, least])


if __name__ == "__main__":
    unittest.main()

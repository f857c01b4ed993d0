"""carries: 1 if a p = p b and there's a table that p times is the unit table, else 0."""

import itertools
import random
import unittest
from fractions import Fraction

import helper
from tablesalike.tables import alike, carried, carries


def answered(n, a, b, p):
    return carries(n, helper.told(a) + helper.told(b) + helper.told(p))


def asked(a, b, p):
    return answered(len(a), helper.words_of(a), helper.words_of(b), helper.words_of(p))


class WrittenOut(unittest.TestCase):
    def check(self, number, n, a, b, p):
        self.assertEqual(answered(n, a, b, p), [number], (a, b, p))

    def test_one_row(self):
        texts = ("0", "1", "-1", "3/2", "-3/2", "2/3", "999999", "1/999999", "-999998/999999")
        for a, b, p in itertools.product(texts, repeat=3):
            self.check(int(a == b and p != "0"), 1, a, b, p)

    def test_unit_tables_and_tables_of_0s(self):
        for n in range(1, 5):
            one = helper.words_of(helper.unit(n))
            zero = " ".join(["0"] * n * n)
            self.check(1, n, one, one, one)
            self.check(1, n, zero, zero, one)
            self.check(0, n, one, one, zero)
            self.check(0, n, zero, zero, zero)
            self.check(0, n, one, zero, one)
            self.check(0, n, zero, one, one)
            self.check(0, n, one, zero, zero)

    def test_carries_and_has_an_inverse(self):
        self.check(1, 2, "2 0 0 3", "3 0 0 2", "0 1 1 0")
        self.check(1, 2, "2 0 0 3", "3 0 0 2", "0 -1/7 5 0")
        self.check(1, 2, "1 2 3 4", "0 2 1 5", "1 1 0 3")
        self.check(1, 2, "5 1 0 5", "5 2 0 5", "1 0 0 2")
        self.check(1, 2, "1/2 1 0 -1/3", "1/2 0 0 -1/3", "1 -6/5 0 1")
        self.check(1, 3, "0 1 0 0 0 1 0 0 0", "0 0 0 1 0 0 0 1 0", "0 0 1 0 1 0 1 0 0")
        self.check(1, 3, "1 0 0 0 2 0 0 0 3", "2 0 0 0 3 0 0 0 1", "0 0 4 1/2 0 0 0 -1 0")
        self.check(1, 4, "1 0 0 0 0 2 0 0 0 0 3 0 0 0 0 4", "4 0 0 0 0 3 0 0 0 0 2 0 0 0 0 1", "0 0 0 1 0 0 -2 0 0 1/3 0 0 7 0 0 0")
        self.check(1, 4, "0 0 0 -1 1 0 0 0 0 1 0 0 0 0 1 0", "0 0 0 -1 1 0 0 0 0 1 0 0 0 0 1 0", "0 0 -1 0 0 0 0 -1 1 0 0 0 0 1 0 0")

    def test_carries_and_has_none(self):
        self.check(0, 2, "2 0 0 3", "2 0 0 4", "1 0 0 0")
        self.check(0, 2, "2 0 0 3", "3 0 0 2", "0 0 0 0")
        self.check(0, 2, "2 0 0 3", "3 0 0 2", "0 1 0 0")
        self.check(0, 2, "0 1 0 0", "0 1 0 0", "0 1 0 0")
        self.check(0, 2, "1 1 1 1", "1 1 1 1", "1/2 1/2 1/2 1/2")
        self.check(0, 3, "1 0 0 0 2 0 0 0 3", "2 0 0 0 3 0 0 0 1", "0 0 4 1/2 0 0 0 0 0")
        self.check(0, 3, "0 0 0 0 0 0 0 0 0", "0 0 0 0 0 0 0 0 0", "1 2 3 4 5 6 7 8 9")
        self.check(0, 4, "1 1 1 1 1 1 1 1 1 1 1 1 1 1 1 1", "4 0 0 0 0 0 0 0 0 0 0 0 0 0 0 0", "1 0 0 0 1 0 0 0 1 0 0 0 1 0 0 0")
        self.check(0, 4, "0 1 0 0 0 0 1 0 0 0 0 1 0 0 0 0", "0 1 0 0 0 0 1 0 0 0 0 1 0 0 0 0", "0 1 2 3 0 0 1 2 0 0 0 1 0 0 0 0")

    def test_has_an_inverse_and_does_not_carry(self):
        # where a p = b p, a table that has an inverse leaves only a and b the same
        self.check(0, 2, "1 1 0 1", "1 1 0 1", "0 1 1 0")
        self.check(0, 2, "2 0 0 3", "2 0 0 3", "1 1 0 1")
        self.check(0, 2, "2 0 0 3", "3 0 0 2", "1 0 0 1")
        self.check(0, 2, "1 2 3 4", "1 2 3 5", "1 0 0 1")
        self.check(0, 3, "0 1 0 0 0 1 0 0 0", "0 1 0 0 0 1 0 0 0", "0 0 1 0 1 0 1 0 0")
        self.check(0, 3, "1 0 0 0 1 0 0 0 1/2", "1 0 0 0 1 0 0 0 1/2", "1 0 1 0 1 0 0 0 1")
        self.check(0, 4, "1 0 0 0 0 1 0 0 0 0 1 0 0 0 0 2", "1 0 0 0 0 1 0 0 0 0 1 0 0 0 0 2", "0 0 0 1 0 1 0 0 0 0 1 0 1 0 0 0")

    def test_neither(self):
        self.check(0, 2, "1 1 0 1", "1 1 0 1", "1 0 0 0")
        # of these a p = b p = 0
        self.check(0, 2, "0 1 0 0", "0 2 0 0", "1 1 0 0")
        self.check(0, 3, "0 0 1 0 0 0 0 0 0", "0 0 5 0 0 0 0 0 0", "1 1 1 1 1 1 0 0 0")
        self.check(0, 4, "0 0 0 1 0 0 0 0 0 0 0 0 0 0 0 0", "0 0 0 2 0 0 0 0 0 0 0 0 0 0 0 0", "1 1 1 1 1 1 1 1 1 1 1 1 0 0 0 0")

    def test_a_p_is_p_b_not_p_a_is_b_p(self):
        # this p carries b into a and not a into b
        self.check(0, 2, "1 2 3 4", "0 2 1 5", "1 -1/3 0 1/3")
        self.check(1, 2, "0 2 1 5", "1 2 3 4", "1 -1/3 0 1/3")
        self.check(0, 2, "0 2 1 5", "1 2 3 4", "1 1 0 3")
        self.check(0, 3, "2 0 0 0 3 0 0 0 1", "1 0 0 0 2 0 0 0 3", "0 0 4 1/2 0 0 0 -1 0")


def six_digits(source):
    """Whole numbers of which four add up to one of 6 digits still."""
    return Fraction(source.randint(100000, 249999))


def by(rows, number):
    return [[x / number for x in row] for row in rows]


class LongNumbers(unittest.TestCase):
    """With a = m k and b = k m the table m carries a into b, as m k m = m k m."""

    def made(self, size, m):
        k = [[Fraction(int(i <= j)) for j in range(size)] for i in range(size)]
        return by(helper.product(m, k), 999983), by(helper.product(k, m), 999983), by(m, 999979)

    def check(self, number, a, b, p):
        words = " ".join(map(helper.words_of, (a, b, p))).split()
        parts = [part for word in words for part in word.split("/")]
        self.assertEqual({len(part) for part in parts}, {6})
        self.assertEqual(asked(a, b, p), [number])

    def test_an_inverse_and_none(self):
        source = random.Random(6)
        for size in (2, 3, 4) * 5:
            m = [[six_digits(source) for _ in range(size)] for _ in range(size)]
            self.assertIsNotNone(helper.inverse(m))
            a, b, p = self.made(size, m)
            self.assertNotEqual(a, b)
            self.check(1, a, b, p)
            self.check(0, b, a, p)
            # two rows of p the same: it still carries, and has no inverse
            self.check(0, *self.made(size, m[:-1] + [m[0]]))

    def test_one_number_is_another(self):
        source = random.Random(7)
        for size in (2, 3, 4):
            tables = self.made(size, [[six_digits(source) for _ in range(size)] for _ in range(size)])
            for which, i, j in itertools.product(range(3), range(size), range(size)):
                other = [[list(row) for row in rows] for rows in tables]
                other[which][i][j] -= Fraction(1, other[which][i][j].denominator)
                self.check(0, *other)

    def test_a_table_carries_itself(self):
        for rows in helper.tables_of_long_numbers():
            self.assertEqual(asked(rows, rows, rows), [1])
            self.assertEqual(asked(rows, rows, [[0] * len(rows)] * len(rows)), [0])
            turned = helper.turned(rows)
            self.assertEqual(asked(rows, rows, turned), [int(len(rows) == 1)])


class ByOtherWays(unittest.TestCase):
    def check(self, a, b, p):
        holds = helper.product(a, p) == helper.product(p, b) and helper.inverse(p) is not None
        self.assertEqual(asked(a, b, p), [int(holds)], (a, b, p))
        return holds

    def test_other_axes(self):
        for size, all_axes in helper.AXES.items():
            for chain, axes in itertools.product(helper.chains(size), all_axes):
                a = helper.plain(chain)
                b = helper.by_other_axes(a, axes)
                self.assertTrue(self.check(a, b, axes))
                self.check(b, a, axes)
                self.assertTrue(self.check(b, a, helper.inverse(axes)))
                self.check(a, a, axes)
                self.check(a, helper.turned(a), axes)

    def test_polynomials_of_a_table_carry_it_into_itself(self):
        found = set()
        for size in helper.AXES:
            for chain in helper.chains(size):
                a = helper.plain(chain)
                for p in ((), (1,), (0, 1), (-1, 2), (2, 1), ("-1/2", 1), (0, "-1/2", 1), (1, 0, 1), (-2, 0, 1)):
                    found.add((size, self.check(a, a, helper.polynomial_at(p, a))))
        self.assertEqual(found, set(itertools.product(helper.AXES, (True, False))))

    def test_every_small_p(self):
        """Two of these tables are alike just if a p of small numbers carries one into the other and has an inverse."""
        entries = [[Fraction(x), Fraction(y)] for x, y in itertools.product((-1, 0, 1), repeat=2)]
        tables = ([[0, 1], [0, 0]], [[1, 0], [0, -1]], [[0, 1], [1, 0]], [[0, -1], [1, 0]], [[1, 1], [1, 1]])
        for a, b in itertools.product(tables, repeat=2):
            texts = helper.told(helper.words_of(a)) + helper.told(helper.words_of(b))
            carrying = [p for p in itertools.product(entries, repeat=2) if self.check(a, b, p)]
            self.assertEqual(carrying != [], alike(2, texts) == [1], (a, b))
            if carrying:
                lines = [row[0] + row[1] for row in carrying]
                self.assertLessEqual(helper.rank(lines), carried(2, texts)[0])


if __name__ == "__main__":
    unittest.main()

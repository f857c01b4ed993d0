"""carried: how many tables x with a x = x b there are that don't hang on others."""

import itertools
import unittest
from fractions import Fraction

import helper
from tablesalike.tables import alike, carried

# six digits on both sides of the "/", each of its own denominator
LONG = ("999998/999999", "-999997/999983", "100003/999979", "-123456/999961")


def answered(n, a, b):
    return carried(n, helper.told(a) + helper.told(b))


def everywhere(text, n):
    """The table with that number at each place."""
    return " ".join([text] * n * n)


def single_places(size):
    """The tables with 1 at one place, 0 elsewhere."""
    for i, j in itertools.product(range(size), repeat=2):
        yield [[Fraction(int((i, j) == (k, m))) for m in range(size)] for k in range(size)]


def counted(a, b):
    """What a x - x b is of each x with a single 1 tells how many x make it 0."""
    lines = []
    for x in single_places(len(a)):
        rows = zip(helper.product(a, x), helper.product(x, b))
        lines.append([p - q for left, right in rows for p, q in zip(left, right)])
    return len(lines) - helper.rank(lines)


class WrittenOut(unittest.TestCase):
    def check(self, n, a, b, number):
        self.assertEqual(answered(n, a, b), [number], (a, b))
        self.assertEqual(answered(n, b, a), [number], (b, a))

    def test_one_row(self):
        texts = ("0", "1", "-1", "3/2", "-3/2", "2/3", "999999", "1/999999") + LONG
        for a, b in itertools.product(texts, repeat=2):
            self.check(1, a, b, int(a == b))

    def test_unit_tables_and_tables_of_0s(self):
        for n in range(1, 5):
            one = helper.words_of(helper.unit(n))
            zero = everywhere("0", n)
            self.check(n, one, one, n * n)
            self.check(n, zero, zero, n * n)
            self.check(n, one, zero, 0)

    def test_the_same_table_of_two_rows(self):
        for words, number in (
            ("2 0 0 3", 2), ("2 0 0 2", 4), ("2 1 0 2", 2), ("1 2 3 4", 2), ("0 -1 1 0", 2), ("1/2 0 0 1/2", 4),
            ("0 1 0 0", 2), ("1 1 1 1", 2), ("1/2 1/3 -1/5 -2", 2),
        ):
            self.check(2, words, words, number)

    def test_two_rows(self):
        self.check(2, "2 0 0 3", "3 0 0 2", 2)
        self.check(2, "1 2 3 4", "0 2 1 5", 2)
        self.check(2, "2 0 0 3", "2 0 0 4", 1)
        self.check(2, "2 0 0 3", "2 0 0 2", 2)
        self.check(2, "2 1 0 2", "2 0 0 2", 2)
        self.check(2, "2 1 0 2", "2 0 0 3", 1)
        self.check(2, "2 0 0 3", "4 0 0 5", 0)
        self.check(2, "0 -1 1 0", "0 1 1 0", 0)
        self.check(2, "0 -1 1 0", "0 2 1 0", 0)
        self.check(2, "1/2 1 0 -1/3", "-1/3 0 5/7 1/2", 2)
        self.check(2, "1/2 1 0 -1/3", "1/3 0 5/7 1/2", 1)

    def test_the_same_table_of_three_rows(self):
        for words, number in (
            ("1 0 0 0 2 0 0 0 3", 3), ("2 0 0 0 2 0 0 0 3", 5), ("2 1 0 0 2 0 0 0 2", 5), ("2 1 0 0 2 1 0 0 2", 3),
            ("1 1 1 1 1 1 1 1 1", 5), ("4 -2 -2 1 1 -1 1 -1 1", 5), ("1/3 0 0 0 1/3 0 0 0 1/3", 9), ("0 0 1 1 0 0 0 1 0", 3),
        ):
            self.check(3, words, words, number)

    def test_three_rows(self):
        self.check(3, "2 0 0 0 2 0 0 0 3", "3 0 0 0 2 0 0 0 3", 4)
        self.check(3, "2 0 0 0 2 0 0 0 3", "3 0 0 0 2 0 0 0 2", 5)
        self.check(3, "2 1 0 0 2 1 0 0 2", "2 1 0 0 2 0 0 0 2", 3)
        self.check(3, "2 1 0 0 2 1 0 0 2", "2 0 0 0 2 0 0 0 2", 3)
        self.check(3, "0 0 1 1 0 0 0 1 0", "1 0 0 0 1 0 0 0 5", 2)
        self.check(3, "0 0 1 1 0 0 0 1 0", "0 -1 0 1 -1 0 0 0 7", 2)
        self.check(3, "0 0 1 1 0 0 0 1 0", "0 0 2 1 0 0 0 1 0", 0)
        self.check(3, "1/2 0 0 0 1/2 0 0 0 0", "1/2 1 0 0 1/2 0 0 0 -1/2", 2)

    def test_the_same_table_of_four_rows(self):
        for words, number in (
            ("1 0 0 0 0 2 0 0 0 0 3 0 0 0 0 4", 4), ("2 0 0 0 0 2 0 0 0 0 3 0 0 0 0 3", 8),
            ("2 0 0 0 0 2 0 0 0 0 2 0 0 0 0 3", 10), ("0 1 0 0 0 0 1 0 0 0 0 1 0 0 0 0", 4),
            ("0 1 0 0 0 0 1 0 0 0 0 0 0 0 0 0", 6), ("0 1 0 0 0 0 0 0 0 0 0 1 0 0 0 0", 8),
            ("0 1 0 0 0 0 0 0 0 0 0 0 0 0 0 0", 10), ("0 -1 0 0 1 0 0 0 0 0 0 -1 0 0 1 0", 8),
            ("0 0 0 -1 1 0 0 0 0 1 0 0 0 0 1 0", 4), ("0 1 1 1 1 0 1 1 1 1 0 1 1 1 1 0", 10),
        ):
            self.check(4, words, words, number)

    def test_four_rows(self):
        self.check(4, "0 1 0 0 0 0 0 0 0 0 0 1 0 0 0 0", "0 1 0 0 0 0 0 0 0 0 0 0 0 0 0 0", 8)
        self.check(4, "0 1 0 0 0 0 1 0 0 0 0 1 0 0 0 0", "0 1 0 0 0 0 0 0 0 0 0 1 0 0 0 0", 4)
        self.check(4, "0 1 0 0 0 0 1 0 0 0 0 0 0 0 0 0", "0 1 0 0 0 0 0 0 0 0 0 1 0 0 0 0", 6)
        self.check(4, "0 -1 0 0 1 0 0 0 0 0 0 -1 0 0 1 0", "0 0 0 -1 1 0 0 0 0 1 0 -2 0 0 1 0", 4)
        self.check(4, "0 0 0 1 1 0 0 0 0 1 0 0 0 0 1 0", "0 -1 0 0 1 0 0 0 0 0 1 0 0 0 0 1/2", 3)
        self.check(4, "0 0 0 1 1 0 0 0 0 1 0 0 0 0 1 0", "0 0 0 -1 1 0 0 0 0 1 0 0 0 0 1 0", 0)
        self.check(4, "0 1 1 1 1 0 1 1 1 1 0 1 1 1 1 0", "3 0 0 0 0 -1 0 0 0 0 -1 0 0 0 0 -1", 10)
        self.check(4, "0 1 1 1 1 0 1 1 1 1 0 1 1 1 1 0", "3 0 0 0 0 3 0 0 0 0 -1 0 0 0 0 -1", 8)

    def test_six_digits_everywhere(self):
        for n, a, b in itertools.product(range(1, 5), LONG, LONG):
            # such a table's forms are x, n - 2 times, and then x times x less n times the number
            number = (n - 1) ** 2 + int(a == b)
            self.check(n, everywhere(a, n), everywhere(b, n), number)
            self.check(n, everywhere(a, n), helper.words_of(helper.unit(n)), 0)
            self.check(n, everywhere(a, n), everywhere("0", n), n * (n - 1))

    def test_six_digits_and_other_axes(self):
        for rows in helper.tables_of_long_numbers():
            n = len(rows)
            turned = helper.turned(rows)
            signs = [[-x if (i + j) % 2 else x for j, x in enumerate(row)] for i, row in enumerate(rows)]
            for other in (rows, turned, signs, [row[::-1] for row in rows[::-1]]):
                self.check(n, helper.words_of(rows), helper.words_of(other), n)

    def test_six_digits_and_only_the_table_0_carries(self):
        made = list(helper.tables_of_long_numbers())
        for a, b in zip(made, made[4:]):
            self.check(len(a), helper.words_of(a), helper.words_of(b), 0)


class ByOtherWays(unittest.TestCase):
    def check(self, a, b):
        words = helper.words_of(a), helper.words_of(b)
        number = counted(a, b)
        self.assertEqual(answered(len(a), *words), [number], words)
        return number

    def test_forms_told_by_other_axes(self):
        found = {size: set() for size in helper.AXES}
        for size, all_axes in helper.AXES.items():
            made = helper.chains(size)
            step = 7 if size == 4 else 1
            for first, second in list(itertools.product(made, repeat=2))[::step ** 2]:
                a = helper.by_other_axes(helper.plain(first), all_axes[0])
                b = helper.by_other_axes(helper.plain(second), all_axes[-1])
                found[size].add(self.check(a, b))
        self.assertEqual(found[1], {0, 1})
        self.assertEqual(found[2], {0, 1, 2, 4})
        self.assertEqual(found[3], {0, 1, 2, 3, 4, 5, 6, 9})
        self.assertGreater(len(found[4]), 8)

    def test_small_tables(self):
        made = list(helper.small_tables_of_two_rows())
        for step in (1, 7, 36, 217):
            for a, b in zip(made, made[step:]):
                self.check(a, b)

    def test_tables_of_three_rows(self):
        made = list(helper.tables_of_three_rows_of_0s_and_1s())
        for step in (0, 1, 73):
            for a, b in zip(made, made[step:]):
                self.check(a, b)

    def test_tables_of_four_rows(self):
        made = list(helper.some_tables_of_four_rows())[:60]
        for step in (0, 1, 5):
            for a, b in zip(made, made[step:]):
                self.check(a, b)

    def test_long_numbers(self):
        made = list(helper.tables_of_long_numbers())
        for a, b in zip(made[:8], made[4:]):
            self.check(a, a)
            self.check(a, b)

    def test_tables_alike_are_carried_by_as_many(self):
        for size, all_axes in helper.AXES.items():
            for chain in helper.chains(size)[::2]:
                a = helper.words_of(helper.plain(chain))
                b = helper.words_of(helper.by_other_axes(helper.plain(chain), all_axes[-1]))
                self.assertEqual(alike(size, helper.told(a) + helper.told(b)), [1])
                self.assertEqual(answered(size, a, b), answered(size, a, a))
                self.assertEqual(answered(size, a, b), answered(size, b, b))
                self.assertGreaterEqual(answered(size, a, b)[0], size)


if __name__ == "__main__":
    unittest.main()

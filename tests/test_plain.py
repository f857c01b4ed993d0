"""plain: the table with the tables of the forms along its diagonal."""

import itertools
import unittest

import helper
from tablesalike.tables import alike, plain


def answered(words):
    return helper.shown(plain(helper.told(words)))


class WrittenOut(unittest.TestCase):
    def check(self, words, *rows):
        self.assertEqual(answered(words), [len(rows)] + " ".join(rows).split())

    def test_the_list_byte_by_byte(self):
        self.assertEqual(plain([[48]]), [1, 1, 48])
        self.assertEqual(plain([[45, 51, 47, 50]]), [1, 4, 45, 51, 47, 50])
        self.assertEqual(plain(helper.told("1 2 3 4")), [2, 1, 48, 1, 50, 1, 49, 1, 53])
        self.assertEqual(plain(helper.told("0 -10 1 0")), [2, 1, 48, 3, 45, 49, 48, 1, 49, 1, 48])

    def test_one_row(self):
        for text in ("0", "1", "-1", "7", "3/2", "-3/2", "999999", "-999999/999998", "1/999999"):
            self.check(text, text)

    def test_two_rows(self):
        self.check("1 2 3 4", "0 2", "1 5")
        self.check("0 -1 1 0", "0 -1", "1 0")
        self.check("2 0 0 3", "0 -6", "1 5")
        self.check("5 1 0 5", "0 -25", "1 10")
        self.check("5 0 0 5", "5 0", "0 5")
        self.check("2 1 -4 -2", "0 0", "1 0")
        self.check("1/2 1/3 -1/5 -2", "0 14/15", "1 -3/2")
        self.check("-1/2 0 0 -1/2", "-1/2 0", "0 -1/2")

    def test_three_rows(self):
        self.check("1 2 3 4 5 6 7 8 10", "0 0 -3", "1 0 12", "0 1 16")
        self.check("1/2 0 1 -1 2/3 0 0 0 -5", "0 0 -5/3", "1 0 11/2", "0 1 -23/6")
        self.check("4 -2 -2 1 1 -1 1 -1 1", "2 0 0", "0 0 -4", "0 1 4")
        self.check("2 0 0 0 3 0 0 0 2", "2 0 0", "0 0 -6", "0 1 5")
        self.check("1/2 0 0 0 1/2 0 0 0 1/2", "1/2 0 0", "0 1/2 0", "0 0 1/2")

    def test_four_rows(self):
        self.check("0 0 0 -1 1 0 0 0 0 1 0 0 0 0 1 0", "0 0 0 -1", "1 0 0 0", "0 1 0 0", "0 0 1 0")
        self.check("2 0 0 0 0 2 0 0 0 0 3 0 0 0 0 3", "0 -6 0 0", "1 5 0 0", "0 0 0 -6", "0 0 1 5")
        self.check("0 1 1 1 1 0 1 1 1 1 0 1 1 1 1 0", "-1 0 0 0", "0 -1 0 0", "0 0 0 3", "0 0 1 2")
        self.check("1/2 0 0 0 0 1/2 0 0 0 0 -1/3 0 0 0 0 2", "1/2 0 0 0", "0 0 0 -1/3", "0 1 0 -1/6", "0 0 1 13/6")
        self.check("0 1 0 0 0 0 1 0 0 0 0 0 0 0 0 0", "0 0 0 0", "0 0 0 0", "0 1 0 0", "0 0 1 0")
        self.check("2/3 0 0 0 0 2/3 0 0 0 0 2/3 0 0 0 0 2/3", "2/3 0 0 0", "0 2/3 0 0", "0 0 2/3 0", "0 0 0 2/3")

    def test_unit_tables_and_tables_of_0s_are_plain(self):
        for size in range(1, 5):
            for words in (helper.words_of(helper.unit(size)), " ".join(["0"] * size * size)):
                self.assertEqual(answered(words), [size] + words.split())

    def test_long_numbers(self):
        self.check("999999 999999 -999999 999999", "0 -1999996000002", "1 1999998")
        self.check("999999/999998 0 0 1/999998", "0 -999999/999996000004", "1 500000/499999")


def short(texts):
    """Whether each whole number has at most 6 digits, so that the texts may be handed in."""
    return all(len(part) <= 6 for text in texts for part in text.lstrip("-").split("/"))


class ByOtherWays(unittest.TestCase):
    def test_forms_told_by_other_axes(self):
        for size, all_axes in helper.AXES.items():
            for chain, axes in itertools.product(helper.chains(size), all_axes):
                table = helper.plain(chain)
                words = helper.words_of(helper.by_other_axes(table, axes))
                self.assertEqual(answered(words), [size] + helper.words_of(table).split(), words)

    def test_sample_tables(self):
        for rows in helper.sample_tables():
            words = helper.words_of(rows)
            expected = helper.words_of(helper.plain(helper.forms(rows))).split()
            self.assertEqual(answered(words), [len(rows)] + expected, words)

    def test_plain_of_plain(self):
        checked = 0
        for rows in helper.sample_tables():
            words = helper.words_of(rows)
            made = answered(words)[1:]
            if short(made):
                self.assertEqual(alike(len(rows), helper.told(words) + helper.told(" ".join(made))), [1], words)
                self.assertEqual(answered(" ".join(made)), [len(rows)] + made, words)
                checked += 1
        self.assertGreater(checked, 1000)


if __name__ == "__main__":
    unittest.main()

"""value: the polynomial p of a table, a table; and what is refused of p."""

import itertools
import re
import unittest
from fractions import Fraction

import helper
from tablesalike.tables import char, value

TABLES = {
    1: ("0", "1", "-1", "2", "-3/2", "999999", "1/999999"),
    2: ("1 2 3 4", "0 -1 1 0", "0 0 0 0", "1 0 0 1", "1/2 1/3 -1/5 -2", "5 1 0 5", "999999/2 -1 1/999999 0"),
    3: ("1 2 3 4 5 6 7 8 10", "1/2 0 1 -1 2/3 0 0 0 -5", "0 0 0 0 0 0 0 0 0", "0 1 0 0 0 1 0 0 0", "4 -2 -2 1 1 -1 1 -1 1"),
    4: (
        "0 0 0 -1 1 0 0 0 0 1 0 0 0 0 1 0", "1/2 0 0 0 0 1/2 0 0 0 0 -1/3 0 0 0 0 2", " ".join(["0"] * 16),
        "0 1 1 1 1 0 1 1 1 1 0 1 1 1 1 0", "1 2 3 4 5 6 7 8 9 -1 -2 -3 1/2 1/3 1/4 1/5",
        "-999999/999998 1 2 3 999983/7 1/999979 0 0 5 5 999961/999959 1 0 0 0 999958/999953",
    ),
}

POLYNOMIALS = {
    "0": (),
    "1": (1,),
    "-1": (-1,),
    "7/3": ("7/3",),
    "-999999/999998": ("-999999/999998",),
    "x": (0, 1),
    "-x": (0, -1),
    "10*x": (0, 10),
    "-1/2*x": (0, "-1/2"),
    "x + 1": (1, 1),
    "x - 1": (-1, 1),
    "-2*x - 3/4": ("-3/4", -2),
    "x^2": (0, 0, 1),
    "-x^2": (0, 0, -1),
    "3/2*x^2 - x + 1": (1, -1, "3/2"),
    "x^2 - 1/2": ("-1/2", 0, 1),
    "x^3 + x": (0, 1, 0, 1),
    "-1/3*x^3 + 5*x^2 - 1/7*x + 2": (2, "-1/7", 5, "-1/3"),
    "x^4 - x^3 + x^2 - x + 1": (1, -1, 1, -1, 1),
    "2/5*x^5 - 5/2": ("-5/2", 0, 0, 0, 0, "2/5"),
    "x^6 + 999999*x^3 - 1/999999": ("-1/999999", 0, 0, 999999, 0, 0, 1),
    "-x^7 + 1/2*x^6": (0, 0, 0, 0, 0, 0, "1/2", -1),
    "x^8": (0, 0, 0, 0, 0, 0, 0, 0, 1),
    "1/2*x^8 - 2/3*x^7 + 3/4*x^6 - 4/5*x^5 + 5/6*x^4 - 6/7*x^3 + 7/8*x^2 - 8/9*x + 9/10":
        ("9/10", "-8/9", "7/8", "-6/7", "5/6", "-4/5", "3/4", "-2/3", "1/2"),
    "-999999*x^8 + 999999/999998*x^7 - 1/999999*x + 100000": (100000, "-1/999999", 0, 0, 0, 0, 0, "999999/999998", -999999),
}

WRONG = (
    "", "-0", "x^1", "x^0", "x^01", "x^02", "x^00", "1*x", "-1*x", "x*2", "x*x", "2*3", "x + x", "x - x", "1 + x", "x - 0",
    "x + 0", "0*x", "-0*x", "0*x^2", "x+1", "x-1", "x +1", "x+ 1", "x  + 1", "x +  1", " x", "x ", " 0", "0 ", "+x", "+1",
    "--x", "--1", "x + -1", "x - -1", "x + -x", "x^", "x^-1", "x^-2", "x^+2", "x^2^2", "x^ 2", "x ^2", "x^1/2", "x^x", "X",
    "X^2", "y", "x*y", "y*x", "2/4*x", "-2/4*x", "3/1*x", "2/2*x", "01*x", "1/02*x", "0/2*x", "1/0*x", "1/2/3*x", "1*x^2",
    "x^2 + 1*x", "x^2 - 1*x", "x^2 + 0*x + 1", "x^2 + x^2", "x + x^2", "x^2 + x + x", "x^2 + 1 + x", "1 + 1", "1 - 1",
    "2 + 1", "0 + x", "0 - 1", "x + 00", "x + 01", "x + 1/1", "x + 2/4", "2x", "2 x", "2 * x", "2* x", "2 *x", "x2", "xx",
    "*x", "-*x", "2*", "2*-x", "-2*-x", "*", "^", "^2", "/", "-", "+", " ", "  ", " + ", " - ", "x +", "x -", "x + ",
    "x - ", "+ x", "- x", "- 1", "x +\t1", "x\t+ 1", "\tx", "x\n", "x * 2", "(x)", "x + (1)", "x^(2)", "x**2", "2**x",
    "2*x*x", "2*3*x", "x/2", "x^2/2", "-x/2", "1.5*x", "1e2*x", "x + y", "x\x00", "x\u00b2", "x + \u0661", "x = 1",
    "x + 1 +", "x + 1 + ", "x + + 1", "x - + 1", "x + 1 1", "x 1", "x x", "x^2 x", "x^8 + x^9", "x^8 - x^8",
    "x^2 * x", "x / 2", "x ^ 2", "x ++ 1", "x + 1000000/2", "x + 1/1000000 + 1", "1000000/4*x", "01000000*x", "0" * 1000,
    "x^" + "0" * 900, "1" * 900 + "*x^1", "9" * 400 + "/" + "3" * 400 + "*x",
)

LARGE = (
    "x^9", "-x^9", "1/2*x^9", "x^9 + x", "x^9 - x^8 + 1", "x^10", "x^11 + x^10", "x^16", "x^99", "x^256", "x^1000",
    "x^264 - 1", "x^1000000", "x^4294967296", "x^18446744073709551617", "x^1" + "0" * 300, "2*x^" + "9" * 500 + " - 1",
    "x^" + "9" * 400 + " + x^" + "9" * 399 + " + 1", "x^" + "7" * 998, "1000000*x^9",
    "1000000", "-1000000", "1000000*x", "-1000000*x", "1/1000000*x", "1000000/3*x^2", "x + 1000000", "x - 1/1000000",
    "x^8 - 1000000*x + 1", "x^8 + 3/1000000*x^7", "1234567/1234568*x^8", "9" * 900 + "*x", "x - " + "1" * 990,
    "1/" + "9" * 900 + "*x^3 + 1", "9999999*x^8 - 9999999",
)


def handed(p, words):
    return [helper.told_alone(p)] + helper.told(words)


def answered(n, p, words):
    return helper.shown(value(n, handed(p, words)))


def rows_of(n, words):
    return helper.cut_in_rows(words.split(), n)


class WrittenOut(unittest.TestCase):
    def check(self, n, p, words, expected):
        self.assertEqual(answered(n, p, words), [n] + expected.split())

    def test_the_list_byte_by_byte(self):
        self.assertEqual(value(1, [[120], [45, 49]]), [1, 2, 45, 49])
        self.assertEqual(value(2, handed("-x + 1/2", "10 0 0 0")), [2, 5, 45, 49, 57, 47, 50, 1, 48, 1, 48, 3, 49, 47, 50])

    def test_one_row(self):
        self.check(1, "0", "5", "0")
        self.check(1, "7", "5", "7")
        self.check(1, "x", "-5/3", "-5/3")
        self.check(1, "-x", "-5/3", "5/3")
        self.check(1, "3/2*x^2 - x + 1", "2", "5")
        self.check(1, "x^8 - 1", "1/2", "-255/256")

    def test_two_rows(self):
        self.check(2, "0", "1 2 3 4", "0 0 0 0")
        self.check(2, "-7/2", "1 2 3 4", "-7/2 0 0 -7/2")
        self.check(2, "x", "1 2 3 4", "1 2 3 4")
        self.check(2, "-x", "1 2 3 4", "-1 -2 -3 -4")
        self.check(2, "x^2", "1 2 3 4", "7 10 15 22")
        self.check(2, "x^2 - 5*x - 2", "1 2 3 4", "0 0 0 0")
        self.check(2, "x^2 - 5*x", "1 2 3 4", "2 0 0 2")
        self.check(2, "x^8", "1 1 0 1", "1 8 0 1")
        self.check(2, "1/2*x + 1/3", "0 1 1 0", "1/3 1/2 1/2 1/3")

    def test_three_rows(self):
        self.check(3, "5", "1 2 3 4 5 6 7 8 9", "5 0 0 0 5 0 0 0 5")
        self.check(3, "x^2 + x + 1", "0 1 0 0 0 1 0 0 0", "1 1 1 0 1 1 0 0 1")
        self.check(3, "x^3", "0 1 0 0 0 1 0 0 0", "0 0 0 0 0 0 0 0 0")
        self.check(3, "1/3*x^3 - 3*x", "1 1 1 1 1 1 1 1 1", "0 0 0 0 0 0 0 0 0")

    def test_four_rows(self):
        self.check(4, "x^4", "0 0 0 -1 1 0 0 0 0 1 0 0 0 0 1 0", "-1 0 0 0 0 -1 0 0 0 0 -1 0 0 0 0 -1")
        self.check(4, "x^8 - x", "0 0 0 -1 1 0 0 0 0 1 0 0 0 0 1 0", "1 0 0 1 -1 1 0 0 0 -1 1 0 0 0 -1 1")
        self.check(4, "2*x^3 - 1/2*x", "0 1 0 0 0 0 1 0 0 0 0 1 0 0 0 0", "0 -1/2 0 2 0 0 -1/2 0 0 0 0 -1/2 0 0 0 0")


class ByOtherWays(unittest.TestCase):
    def test_power_by_power(self):
        for n, tables in TABLES.items():
            for words, (p, numbers) in itertools.product(tables, POLYNOMIALS.items()):
                expected = helper.polynomial_at(numbers, rows_of(n, words))
                self.assertEqual(answered(n, p, words), [n] + helper.words_of(expected).split(), (p, words))

    def test_put_into_its_own_polynomials_a_table_gives_0(self):
        for rows in itertools.chain(helper.small_tables_of_two_rows(), helper.some_tables_of_four_rows()):
            words = helper.words_of(rows)
            for p in helper.shown(char(helper.told(words)))[1:]:
                self.assertEqual(answered(len(rows), p, words), [len(rows)] + ["0"] * len(rows) ** 2, words)

    def test_put_into_its_own_polynomials_each_size(self):
        for n, p, words in (
            (1, "x + 3/2", "-3/2"), (2, "x^2 + 3/2*x - 14/15", "1/2 1/3 -1/5 -2"),
            (3, "x^3 + 23/6*x^2 - 11/2*x + 5/3", "1/2 0 1 -1 2/3 0 0 0 -5"), (3, "x^2 - 4*x + 4", "4 -2 -2 1 1 -1 1 -1 1"),
            (4, "x^2 - 2*x - 3", "0 1 1 1 1 0 1 1 1 1 0 1 1 1 1 0"),
        ):
            self.assertEqual(answered(n, p, words), [n] + ["0"] * n * n)


TERM = r"(?:(\d+(?:/\d+)?)(?:\*(x)(?:\^(\d+))?)?|(x)(?:\^(\d+))?)"
SUM = re.compile(rf"-?{TERM}(?: [+-] {TERM})*", re.ASCII)


def added_up(text):
    """The numbers of a polynomial, from power 0 on, that a text tells in a looser writing, or None."""
    if not SUM.fullmatch(text):
        return None
    numbers = {}
    for sign, number, times_x, times_power, x, power in re.findall(rf"(^-?|[+-] ){TERM}", text, re.ASCII):
        if re.search("/0+$", number):
            return None
        at = int(times_power or power or "1") if times_x or x else 0
        size = Fraction(number or "1")
        numbers[at] = numbers.get(at, 0) + (-size if "-" in sign else size)
    return [numbers.get(at, Fraction(0)) for at in range(max(numbers) + 1)]


def expected_of(text):
    """What value answers of the text and the table 2, found out otherwise: a polynomial has just one text."""
    numbers = added_up(text)
    if numbers is None or helper.written(numbers) != text:
        return [-1]
    if len(helper.trim(numbers)) > 9 or re.search(r"\d{7}", text):
        return [-2]
    return [1, helper.words_of(helper.polynomial_at(numbers, [[Fraction(2)]]))]


class TextsOfPolynomials(unittest.TestCase):
    def test_right(self):
        for p in POLYNOMIALS:
            self.assertEqual(answered(1, p, "2"), expected_of(p))
            self.assertEqual(expected_of(p)[0], 1)

    def test_wrong(self):
        for p in WRONG:
            for n in range(1, 5):
                self.assertEqual(value(n, handed(p, "1 " * n * n)), [-1], p[:30])

    def test_large(self):
        for p in LARGE:
            for n in range(1, 5):
                self.assertEqual(value(n, handed(p, "1 " * n * n)), [-2], p[:30])

    def test_degrees(self):
        for degree in range(2, 40):
            answer = answered(1, f"x^{degree}", "2")
            self.assertEqual(answer, [1, str(2 ** degree)] if degree <= 8 else [-2])

    def test_six_and_seven_digits(self):
        for sign, behind in itertools.product(("", "-", "x^8 - ", "x^8 + "), ("", "*x", "*x^7")):
            for number, is_right in (
                ("999999", True), ("1000000", False), ("100000", True), ("999999/2", True), ("1000001/2", False),
                ("1/999999", True), ("1/1000000", False), ("999998/999999", True), ("999999/1000000", False),
                ("1000001/1000000", False), ("1234567/123456", False),
            ):
                answer = value(1, handed(sign + number + behind, "0"))
                self.assertEqual(answer[0], 1 if is_right else -2, sign + number + behind)

    def test_wrong_behind_large(self):
        for p, behind in itertools.product(LARGE, (" ", " + ", " - 0", "+1", " + 01", " + x^1", "x", "*", "^", " + -1", "\n")):
            self.assertEqual(value(1, handed(p + behind, "2")), [-1], p[:20] + behind)

    def test_wrong_ahead_of_large(self):
        for p, ahead in itertools.product(LARGE, (" ", "+", "--", "0 + ", "1*", "1 + ", "y + ", "x*", "x^ + ", "-0 + ")):
            self.assertEqual(value(1, handed(ahead + p, "2")), [-1], ahead + p[:20])

    def test_a_higher_power_behind_a_high_one(self):
        for p in ("x^9 + x^9", "x^9 + x^10", "x^" + "9" * 300 + " + x^1" + "0" * 300, "x^" + "9" * 300 + " - x^" + "9" * 300):
            self.assertEqual(value(1, handed(p, "2")), [-1], p[:20])

    def test_every_short_text(self):
        for size, alphabet in enumerate(("", "x012 +-*^/", "x012 +-*^/", "x012 +-*^/", "x012 +-*^/", "x12 +-^")):
            for signs in itertools.product(alphabet, repeat=size):
                p = "".join(signs)
                self.assertEqual(answered(1, p, "2"), expected_of(p), p)

    def test_a_sign_more_or_less_or_another(self):
        for p in ("3/2*x^2 - x + 1", "-x^8 + 10*x^3 - 1/9", "-2/3*x", "x^2 + x", "x^9 - 123456*x", "100000/3*x^7 + 2"):
            for at, sign in itertools.product(range(len(p) + 1), ["", *"x0123 +-*^/y"]):
                for near in (p[:at] + sign + p[at:], p[:at] + sign + p[at + 1:]):
                    self.assertEqual(answered(1, near, "2"), expected_of(near), near)

    def test_every_byte(self):
        for byte in range(256):
            is_digit = 48 <= byte <= 57
            self.assertEqual(value(1, [[byte], [50]])[0], 1 if is_digit or byte == 120 else -1)
            self.assertEqual(value(1, [[120, 94, byte], [50]])[0], [-1, 1, -2][(50 <= byte <= 56) + 2 * (byte == 57)])
            self.assertEqual(value(1, [[120, 32, byte, 32, 49], [50]])[0], 1 if byte in (43, 45) else -1)
            self.assertEqual(value(1, [[120, byte], [50]])[0], -1)
            self.assertEqual(value(1, [[byte, 120], [50]])[0], 1 if byte == 45 else -1)


class OrderOfRefusals(unittest.TestCase):
    P = {"x": 0, "x^1": -1, "": -1, "x^9": -2, "1000000*x": -2, "x^9 + 01": -1}
    A = {"1": 0, "01": -1, "-0": -1, "1000000": -2, "1/1000000": -2}

    def test_numbers_ahead_of_p(self):
        for n in range(1, 5):
            for (p, of_p), (text, of_a) in itertools.product(self.P.items(), self.A.items()):
                for place in range(n * n):
                    words = ["1"] * n * n
                    words[place] = text
                    answer = value(n, handed(p, " ".join(words)))
                    self.assertEqual(answer[0], of_a or of_p or n, (p, words))

    def test_both_refusals_of_the_numbers_ahead_of_p(self):
        for p in self.P:
            self.assertEqual(value(2, handed(p, "1000000 1 1 01")), [-1])
            self.assertEqual(value(2, handed(p, "01 1 1 1000000")), [-1])

    def test_counts_ahead_of_all(self):
        for p, text in itertools.product(self.P, self.A):
            self.assertEqual(value(0, handed(p, "")), [-6])
            self.assertEqual(value(0, handed(p, text)), [-6])
            for n in range(1, 5):
                for count in (0, n * n - 1, n * n + 1):
                    self.assertEqual(value(n, handed(p, (text + " ") * count)), [-6])
            for n in (5, 4294967295):
                for count in range(24):
                    self.assertEqual(value(n, handed(p, (text + " ") * count)), [-6])

    def test_no_text_at_all(self):
        for n in (0, 1, 2, 3, 4, 5, 4294967295):
            self.assertEqual(value(n, []), [-6])


if __name__ == "__main__":
    unittest.main()

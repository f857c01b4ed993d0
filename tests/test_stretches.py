"""stretches: by which fractions a table only stretches some vectors."""

import itertools
import random
import time
import unittest
from fractions import Fraction

import helper
from tablesalike.tables import char, stretches


def answered(words):
    return helper.shown(stretches(helper.told(words)))


def parted(texts):
    """What is told of each fraction by itself."""
    return [tuple(texts[at:at + 3]) for at in range(0, len(texts), 3)]


class WrittenOut(unittest.TestCase):
    def check(self, words, *parts):
        """parts: for each fraction it, how often it's a root, how many vectors, parted by blanks."""
        self.assertEqual(answered(words), [len(parts)] + " ".join(parts).split(), words)

    def test_the_list_byte_by_byte(self):
        self.assertEqual(stretches([[48]]), [1, 1, 48, 1, 49, 1, 49])
        self.assertEqual(stretches([[45, 51, 47, 50]]), [1, 4, 45, 51, 47, 50, 1, 49, 1, 49])
        self.assertEqual(stretches(helper.told("0 -1 1 0")), [0])
        self.assertEqual(stretches(helper.told("2 1 0 2")), [1, 1, 50, 1, 50, 1, 49])
        self.assertEqual(stretches(helper.told("2 0 0 -10")), [2, 3, 45, 49, 48, 1, 49, 1, 49, 1, 50, 1, 49, 1, 49])

    def test_one_row(self):
        for text in ("0", "1", "-1", "7", "3/2", "-3/2", "999999", "-999999", "1/999999", "-999998/999999", "999999/999998"):
            self.check(text, text + " 1 1")

    def test_none(self):
        self.check("0 -1 1 0")
        self.check("0 2 1 0")
        self.check("1 2 3 4")
        self.check("1/2 1/3 -1/5 -2")
        self.check("0 0 2 1 0 0 0 1 0")
        self.check("1 2 3 4 5 6 7 8 10")
        self.check("0 0 0 -1 1 0 0 0 0 1 0 0 0 0 1 0")
        self.check("0 -1 0 0 1 0 0 0 0 0 0 -1 0 0 1 0")
        self.check("0 -1 1 0 1 0 0 1 0 0 0 -1 0 0 1 0")
        self.check("0 0 0 2/3 1 0 0 0 0 1 0 0 0 0 1 0")

    def test_two_rows(self):
        self.check("2 0 0 3", "2 1 1", "3 1 1")
        self.check("3 0 0 2", "2 1 1", "3 1 1")
        self.check("2 0 0 2", "2 2 2")
        self.check("2 1 0 2", "2 2 1")
        self.check("2 0 -1/3 2", "2 2 1")
        self.check("0 0 0 0", "0 2 2")
        self.check("0 1 0 0", "0 2 1")
        self.check("1 1 1 1", "0 1 1", "2 1 1")
        self.check("0 1 1 0", "-1 1 1", "1 1 1")
        self.check("0 1/4 1 0", "-1/2 1 1", "1/2 1 1")
        self.check("1/2 5 0 -1/3", "-1/3 1 1", "1/2 1 1")
        self.check("0 -1/6 1 5/6", "1/3 1 1", "1/2 1 1")

    def test_three_rows(self):
        self.check("3 0 0 0 1 0 0 0 2", "1 1 1", "2 1 1", "3 1 1")
        self.check("2 0 0 0 2 0 0 0 3", "2 2 2", "3 1 1")
        self.check("2 1 0 0 2 0 0 0 3", "2 2 1", "3 1 1")
        self.check("2 0 0 0 2 0 0 0 2", "2 3 3")
        self.check("2 1 0 0 2 0 0 0 2", "2 3 2")
        self.check("2 1 0 0 2 1 0 0 2", "2 3 1")
        self.check("4 -2 -2 1 1 -1 1 -1 1", "2 3 2")
        self.check("0 0 1 1 0 0 0 1 0", "1 1 1")
        self.check("0 -1 0 1 0 0 0 0 -2/7", "-2/7 1 1")
        self.check("1 1 1 1 1 1 1 1 1", "0 2 2", "3 1 1")
        self.check("1 2 3 4 5 6 7 8 9", "0 1 1")
        self.check("-1/2 0 0 7 1/3 0 8 9 -1/2", "-1/2 2 1", "1/3 1 1")

    def test_four_rows(self):
        self.check("4 0 0 0 0 -3 0 0 0 0 2 0 0 0 0 -1", "-3 1 1", "-1 1 1", "2 1 1", "4 1 1")
        self.check("1/2 0 0 0 0 1/2 0 0 0 0 -1/3 0 0 0 0 2", "-1/3 1 1", "1/2 2 2", "2 1 1")
        self.check("2 0 0 0 0 2 0 0 0 0 3 0 0 0 0 3", "2 2 2", "3 2 2")
        self.check("2 1 0 0 0 2 0 0 0 0 3 0 0 0 0 3", "2 2 1", "3 2 2")
        self.check("2 1 0 0 0 2 0 0 0 0 3 1 0 0 0 3", "2 2 1", "3 2 1")
        self.check("7 0 0 0 0 7 0 0 0 0 7 0 0 0 0 7", "7 4 4")
        self.check("7 1 0 0 0 7 0 0 0 0 7 0 0 0 0 7", "7 4 3")
        self.check("7 1 0 0 0 7 0 0 0 0 7 1 0 0 0 7", "7 4 2")
        self.check("7 1 0 0 0 7 1 0 0 0 7 0 0 0 0 7", "7 4 2")
        self.check("7 1 0 0 0 7 1 0 0 0 7 1 0 0 0 7", "7 4 1")
        self.check("0 0 0 1 1 0 0 0 0 1 0 0 0 0 1 0", "-1 1 1", "1 1 1")
        self.check("0 -1 0 0 1 0 0 0 0 0 5 1 0 0 0 5", "5 2 1")
        self.check("0 2 0 0 1 0 0 0 0 0 5/9 0 0 0 0 5/9", "5/9 2 2")
        self.check("0 2 0 0 1 0 0 0 0 0 1 0 0 0 0 2", "1 1 1", "2 1 1")
        self.check("0 1 1 1 1 0 1 1 1 1 0 1 1 1 1 0", "-1 3 3", "3 1 1")

    def test_rising_by_size_not_by_text(self):
        self.check("10 0 0 0 9 0 0 0 -10", "-10 1 1", "9 1 1", "10 1 1")
        self.check("1/2 0 0 0 0 1/3 0 0 0 0 -1/2 0 0 0 0 -1/3", "-1/2 1 1", "-1/3 1 1", "1/3 1 1", "1/2 1 1")
        self.check("100 0 0 0 0 99/2 0 0 0 0 0 0 0 0 0 -100/3", "-100/3 1 1", "0 1 1", "99/2 1 1", "100 1 1")
        self.check("999998/999999 0 0 999997/999998", "999997/999998 1 1", "999998/999999 1 1")
        self.check("-999998/999999 0 0 -999997/999998", "-999998/999999 1 1", "-999997/999998 1 1")

    def test_unit_tables_and_tables_of_0s(self):
        for n in range(1, 5):
            self.check(helper.words_of(helper.unit(n)), f"1 {n} {n}")
            self.check("0 " * n * n, f"0 {n} {n}")


def has_no_fraction(p):
    """Whether some prime shows it: a fraction that is a root would be one of what the prime leaves of p, too."""
    for prime in (7, 11, 13, 17, 19, 23, 29, 31, 37, 41, 43, 47, 53, 59, 61, 67, 71, 73, 79, 83, 89, 97, 101, 103, 107, 109):
        if all(number.denominator % prime for number in p):
            left = [number.numerator * pow(number.denominator, -1, prime) for number in p]
            if all(helper.at_place(left, place) % prime for place in range(prime)):
                return True
    return False


# six digits on both sides of the "/"
C = [Fraction(text) for text in ("999998/999983", "-999961/999979", "123457/999961", "-654321/999959")]


class LongNumbers(unittest.TestCase):
    """Tables full of numbers of six digits on both sides of the "/"."""

    def check(self, rows, expected):
        """expected: for each fraction how often it's a root and how many vectors."""
        words = helper.words_of(rows)
        self.assertEqual({len(part) for part in words.replace("-", "").replace("/", " ").split()}, {6})
        started = time.process_time()
        answer = answered(words)
        self.assertLess(time.process_time() - started, 5)
        told = [(str(root), str(times), str(free)) for root, (times, free) in sorted(expected.items())]
        self.assertEqual((answer[0], parted(answer[1:])), (len(told), told), words)

    def test_one_number_everywhere(self):
        for n, number in itertools.product(range(2, 5), C):
            self.check([[number] * n] * n, {Fraction(0): (n - 1, n - 1), n * number: (1, 1)})

    def test_two_rows(self):
        self.check([[C[0], C[1]], [C[1], C[0]]], {C[0] - C[1]: (1, 1), C[0] + C[1]: (1, 1)})
        self.check([[C[0], C[1]], [-C[1], C[0]]], {})
        # c + d and c - d on the diagonal: both roots are c
        c, d = Fraction(500000, 999983), Fraction(123456, 999983)
        self.check([[c + d, d], [-d, c - d]], {c: (2, 1)})

    def test_three_rows(self):
        a, b, c = C[:3]
        self.check([[a, b, b], [b, a, b], [b, b, a]], {a + 2 * b: (1, 1), a - b: (2, 2)})
        self.check([[a, b, c], [c, a, b], [b, c, a]], {a + b + c: (1, 1)})

    def test_four_rows_and_four_fractions(self):
        rows = [[C[i ^ j] for j in range(4)] for i in range(4)]
        roots = [C[0] + s * C[1] + t * C[2] + s * t * C[3] for s in (1, -1) for t in (1, -1)]
        self.check(rows, {root: (1, 1) for root in roots})

    def test_four_rows_and_a_fraction_twice(self):
        a, b, c = C[:3]
        rows = [[(a, b, c, b)[(j - i) % 4] for j in range(4)] for i in range(4)]
        self.check(rows, {a + 2 * b + c: (1, 1), a - 2 * b + c: (1, 1), a - c: (2, 2)})

    def test_four_rows_and_others_beside_two_fractions(self):
        rows = [[C[(j - i) % 4] for j in range(4)] for i in range(4)]
        self.check(rows, {sum(C): (1, 1), C[0] - C[1] + C[2] - C[3]: (1, 1)})

    def test_four_rows_and_one_vector_for_a_fraction_twice(self):
        # as above, of two rows, with parts of two rows each, u and v in turn, in the place of the numbers
        c = [Fraction(top, 999983) for top in (500000, 300000)]
        d = [Fraction(top, 999983) for top in (123456, 100003)]
        parts = [[c[k] + d[k], d[k], -d[k], c[k] - d[k]] for k in range(2)]
        rows = [[parts[(i + j) % 2][i // 2 * 2 + j // 2] for j in range(4)] for i in range(4)]
        self.check(rows, {c[0] + c[1]: (2, 1), c[0] - c[1]: (2, 1)})

    def test_four_rows_and_none(self):
        # roots a + i s and a - i s, each twice, with the square of s the sum of the squares of b, c and d
        a, b, c, d = C
        self.check([[a, -b, -c, -d], [b, a, -d, c], [c, d, a, -b], [d, -c, b, a]], {})

    def test_any(self):
        source = random.Random(9)
        for size in (2, 3, 4) * 10:
            numbers = []
            while len(numbers) < size * size:
                number = Fraction(source.randint(100000, 999999), source.randint(100000, 999999))
                if number.numerator > 99999 and number.denominator > 99999:
                    numbers.append(number * source.choice((1, -1)))
            rows = helper.cut_in_rows(numbers, size)
            self.assertTrue(has_no_fraction(helper.polynomial(rows)))
            self.check(rows, {})


class ByOtherWays(unittest.TestCase):
    def check(self, rows, roots):
        """The roots are found another way, how often they are there and how many vectors, too."""
        p = helper.polynomial(rows)
        expected = [(str(r), str(helper.how_often(p, r)), str(helper.stretched_vectors(rows, r))) for r in roots]
        answer = answered(helper.words_of(rows))
        self.assertEqual((answer[0], parted(answer[1:])), (len(expected), expected), rows)
        return [part[1:] for part in expected]

    def test_forms_told_by_other_axes(self):
        found = {size: set() for size in helper.AXES}
        for size, all_axes in helper.AXES.items():
            for chain, axes in itertools.product(helper.chains(size), all_axes):
                rows = helper.by_other_axes(helper.plain(chain), axes)
                roots = [r for r in (Fraction(-2), Fraction(0), Fraction(1, 2)) if helper.at_place(chain[-1], r) == 0]
                found[size].add(tuple(sorted(self.check(rows, roots))))
        self.assertEqual(found[1], {(("1", "1"),)})
        self.assertEqual(found[2], {(), (("1", "1"), ("1", "1")), (("2", "1"),), (("2", "2"),)})
        for size, n in ((size, n) for size in (3, 4) for n in range(1, size + 1)):
            self.assertIn(((str(size), str(n)),), found[size])

    def test_sample_tables(self):
        for rows in helper.tables_of_short_numbers():
            self.check(rows, helper.fraction_roots(helper.polynomial(rows)))

    def test_roots_below_one_another(self):
        """Of a table with 0s below its diagonal the roots stand on the diagonal."""
        source = random.Random(10)
        for size in (2, 3, 4) * 40:
            some = [Fraction(source.randint(-99, 99), source.randint(1, 9)) for _ in range(2)]
            rows = [[Fraction(source.randint(-1, 1)) if i < j else Fraction(0) for j in range(size)] for i in range(size)]
            for i in range(size):
                rows[i][i] = source.choice(some)
            roots = sorted({rows[i][i] for i in range(size)})
            self.check(rows, roots)
            self.check(helper.turned(rows), roots)

    def test_the_polynomial_of_the_answer(self):
        """Where all roots are fractions, char's first polynomial is the product of x less each, as often as told."""
        for rows in helper.tables_of_three_rows_of_0s_and_1s():
            words = helper.words_of(rows)
            parts = parted(answered(words)[1:])
            factors = [[-Fraction(r), Fraction(1)] for r, times, _ in parts for _ in range(int(times))]
            if len(factors) == 3:
                self.assertEqual(helper.shown(char(helper.told(words)))[1], helper.written(helper.product_of(factors)))


if __name__ == "__main__":
    unittest.main()

"""What the calls refuse of how many texts there are and of numbers, and which refusal comes first."""

import itertools
import unittest

import helper
from tablesalike.tables import alike, carried, carries, char, forms, plain, simple, stretches, value, vector

WRONG = (
    "", "-0", "00", "01", "-01", "000001", "1/1", "3/1", "2/4", "-2/4", "0/5", "-0/5", "0/1", "1/0", "-1/0", "0/0",
    "+1", " 1", "1 ", "1/", "/2", "-/2", "/", "-", "-1/", "--1", "1/-2", "-1/-2", "1/+2", "1-", "1-2", "01/2", "1/02",
    "1/2/3", "1//2", "1.5", "1e3", "x", "1x", "0x1", "1_0", "1\n", "1\t", "\n1", "1/ 2", "1 /2", "1:", ":", "1/:",
    "\u00b2", "\u0661", "\x00", "1\x00", "4/6", "999999/999999", "999999/3", "-999999/7",
)

RIGHT = {
    "0": "x", "1": "x - 1", "9": "x - 9", "10": "x - 10", "-1": "x + 1", "-10": "x + 10", "1/2": "x - 1/2",
    "-1/2": "x + 1/2", "10/9": "x - 10/9", "123456": "x - 123456", "999999": "x - 999999", "-999999": "x + 999999",
    "999999/2": "x - 999999/2", "1/999999": "x - 1/999999", "-999998/999999": "x + 999998/999999",
    "-1/100000": "x + 1/100000", "100000/3": "x - 100000/3",
}

LONG = (
    "1000000", "-1000000", "1234567", "9999999", "1000000/3", "-1000000/3", "1/1000000", "-1/1000000",
    "999999/1000000", "1000000/999999", "1000001/1000000", "1" + "0" * 999, "-" + "9" * 999, "1/" + "9" * 998,
    "1" + "0" * 498 + "/" + "9" * 499, "9" * 998 + "/2",
)

WRONG_AND_LONG = (
    "1000000/2", "-1000000/2", "2/1000000", "1000000/1", "1000000/0", "0/1000000", "01000000", "-01000000", "1/01000000",
    "0000000", "-0000000", "1000000x", "x1000000", "1000000/", "/1000000", "--1000000", "0" * 1000, "9" * 999 + "x",
    "9" * 499 + "/" + "3" * 500, "9" * 500 + "/" + "3" * 499, "6" + "0" * 498 + "/" + "9" * 499,
    "2" + "0" * 498 + "/" + "4" * 499,
)


class TextsOfNumbers:
    """Needs at_every_place, which puts a text into the place of each number in turn."""

    def test_wrong(self):
        for text in WRONG:
            with self.subTest(text=text):
                self.at_every_place(text, -1)

    def test_long(self):
        for text in LONG:
            with self.subTest(text=text[:20]):
                self.at_every_place(text, -2)

    def test_wrong_and_long(self):
        for text in WRONG_AND_LONG:
            with self.subTest(text=text[:20]):
                self.at_every_place(text, -1)


class OneTable(unittest.TestCase):
    """Each check is made of all the calls that are handed a table alone."""

    def refused(self, texts, number):
        for call in (forms, char, plain, stretches, simple):
            self.assertEqual(call(texts), [number], call.__name__)

    def taken(self, texts):
        self.assertGreater(forms(texts)[0], 0)
        self.assertEqual(char(texts)[0], 2)
        self.assertEqual(plain(texts)[0] ** 2, len(texts))
        self.assertIn(stretches(texts)[0], range(5))
        self.assertIn(simple(texts), ([0], [1], [2]))


class HowMany(OneTable):
    def test_every_count(self):
        for count in range(21):
            texts = [[49]] * count
            if count in (1, 4, 9, 16):
                self.taken(texts)
            else:
                self.refused(texts, -6)

    def test_before_a_text_that_is_no_number(self):
        for count in (2, 3, 5, 8, 10, 15, 17, 20):
            self.refused([[]] * count, -6)
            self.refused([[49]] * (count - 1) + [helper.told_alone("x")], -6)

    def test_before_a_long_number(self):
        for count in (2, 3, 5, 8, 10, 15, 17, 20):
            self.refused([helper.told_alone("1000000")] * count, -6)
            self.refused([helper.told_alone("x"), helper.told_alone("1000000")] + [[49]] * 18, -6)


class Numbers(TextsOfNumbers, OneTable):
    def at_every_place(self, text, number):
        for count in (1, 4, 9, 16):
            for place in range(count):
                texts = [[49]] * count
                texts[place] = helper.told_alone(text)
                self.refused(texts, number)

    def test_right(self):
        for text, polynomial in RIGHT.items():
            with self.subTest(text=text):
                self.assertEqual(helper.shown(forms([helper.told_alone(text)])), [1, polynomial])
                self.assertEqual(helper.shown(char([helper.told_alone(text)])), [2, polynomial, polynomial])
                self.assertEqual(helper.shown(plain([helper.told_alone(text)])), [1, text])
                self.assertEqual(helper.shown(stretches([helper.told_alone(text)])), [1, text, "1", "1"])
                self.assertEqual(simple([helper.told_alone(text)]), [2])

    def test_every_byte_alone(self):
        for byte in range(256):
            if 48 <= byte <= 57:
                self.taken([[byte]])
            else:
                self.refused([[byte]], -1)

    def test_every_byte_behind_a_digit(self):
        for byte in range(256):
            if 48 <= byte <= 57:
                self.taken([[49, byte]])
            else:
                self.refused([[49, byte]], -1)

    def test_every_byte_within_a_fraction(self):
        for byte in range(256):
            if 50 <= byte <= 57:
                self.taken([[49, 47, byte]])
            else:
                self.refused([[49, 47, byte]], -1)

    def test_wrong_behind_and_ahead_of_long(self):
        for count in (4, 9, 16):
            for place in range(1, count):
                texts = [[49]] * count
                texts[0] = helper.told_alone("1000000")
                texts[place] = helper.told_alone("2/4")
                self.refused(texts, -1)
                self.refused(texts[::-1], -1)

    def test_six_digits_everywhere(self):
        for count in (1, 4, 9, 16):
            self.taken([helper.told_alone("-999999/999998")] * count)


# of each call that is handed n: how many texts it takes by n, where its numbers start, how many may be handed in
BESIDE_N = (
    (alike, {1: 2, 2: 8, 3: 18, 4: 32}, 0, 40),
    (value, {1: 2, 2: 5, 3: 10, 4: 17}, 1, 24),
    (vector, {1: 2, 2: 6, 3: 12, 4: 20}, 0, 24),
    (carried, {1: 2, 2: 8, 3: 18, 4: 32}, 0, 40),
    (carries, {1: 3, 2: 12, 3: 27, 4: 48}, 0, 56),
)


class BesideN(TextsOfNumbers, unittest.TestCase):
    """Each check is made of all the calls that are handed how many rows a table has."""

    def places(self):
        """The call, n, how many texts it takes and the place of a number, for each such place."""
        for call, counts, start, _ in BESIDE_N:
            for n, count in counts.items():
                for place in range(start, count):
                    yield call, n, count, place

    def at_every_place(self, text, number):
        for call, n, count, place in self.places():
            texts = [[49]] * count
            texts[place] = helper.told_alone(text)
            self.assertEqual(call(n, texts), [number], (call.__name__, n, place))

    def test_every_count(self):
        for call, counts, _, most in BESIDE_N:
            for n in (0, 1, 2, 3, 4, 5, 6, 16, 65536, 2147483648, 4294967294, 4294967295):
                for count in range(most + 1):
                    answer = call(n, [[49]] * count)
                    if counts.get(n) == count:
                        self.assertGreaterEqual(answer[0], 0)
                    else:
                        self.assertEqual(answer, [-6], (call.__name__, n, count))

    def test_count_before_numbers(self):
        for call, counts, _, most in BESIDE_N:
            for n in (0, 1, 2, 3, 4, 5, 4294967295):
                for count in range(most + 1):
                    if counts.get(n) != count:
                        for texts in ([[]] * count, [helper.told_alone("1000000")] * count, [helper.told_alone("x + ")] * count):
                            self.assertEqual(call(n, texts), [-6], (call.__name__, n, count))

    def test_right(self):
        for text in RIGHT:
            for call, n, count, place in self.places():
                texts = [[49]] * count
                texts[place] = helper.told_alone(text)
                self.assertGreaterEqual(call(n, texts)[0], 0, (call.__name__, n, place))

    def test_wrong_behind_and_ahead_of_long(self):
        for call, counts, start, _ in BESIDE_N:
            for n, count in counts.items():
                for wrong, far in itertools.permutations(range(start, count), 2):
                    texts = [[49]] * count
                    texts[wrong] = helper.told_alone("2/4")
                    texts[far] = helper.told_alone("1000000")
                    self.assertEqual(call(n, texts), [-1], (call.__name__, n, wrong, far))

    def test_six_digits_everywhere(self):
        for call, counts, start, _ in BESIDE_N:
            for n, count in counts.items():
                texts = [[49]] * start + [helper.told_alone("-999999/999998")] * (count - start)
                self.assertGreaterEqual(call(n, texts)[0], 0)


if __name__ == "__main__":
    unittest.main()

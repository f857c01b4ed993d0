"""What the document promises over the whole program: the ten calls, one beside the other, of the same tables."""

import copy
import itertools
import re
import unittest
from fractions import Fraction

import helper
from tablesalike import tables


def told(*parts):
    """The lists of bytes of polynomials' texts, and of tables and vectors, one behind the other."""
    texts = []
    for part in parts:
        if isinstance(part, str):
            texts.append(helper.told_alone(part))
        else:
            texts.extend(helper.told(helper.words_of(part)))
    return texts


def asked(name, *arguments):
    """What a call answers, its texts shown; each time what is handed in must be as it was."""
    handed = copy.deepcopy(arguments)
    answer = getattr(tables, name)(*handed)
    if handed != arguments:
        raise AssertionError(f"{name} changed what was handed in")
    return helper.shown(answer)


def poly(text):
    """The numbers of a polynomial that an answer tells, from power 0 on."""
    numbers = {}
    for term in text.replace(" - ", " + -").split(" + "):
        factor, letter, power = term.partition("x")
        sign = "-" if factor == "-" else ""
        number = Fraction(factor.rstrip("*") if letter == "" or factor not in ("", "-") else sign + "1")
        numbers[int(power.lstrip("^") or "1") if letter else 0] = number
    return [numbers.get(at, Fraction(0)) for at in range(max(numbers) + 1)]


def rest(p, q):
    """What's left of p when q is taken out."""
    p = helper.trim(list(p))
    while len(p) >= len(q):
        p = helper.less_times(p, p[-1] / q[-1], len(p) - len(q), q)
    return p


def degree_in_common(p, q):
    while q:
        p, q = q, rest(p, q)
    return len(p) - 1


def short(texts):
    """Whether each whole number in these texts has at most 6 digits."""
    return all(len(digits) <= 6 for text in texts for digits in re.findall("[0-9]+", text))


def of_one_table(rows):
    """All that stays the same, whatever axes are chosen."""
    return [asked(name, told(rows)) for name in ("forms", "char", "plain", "stretches", "simple")]


def samples():
    for size, all_axes in helper.AXES.items():
        for chain in helper.chains(size)[::2]:
            yield helper.by_other_axes(helper.plain(chain), all_axes[-1])
    yield from itertools.islice(helper.small_tables_of_two_rows(), 0, None, 31)
    yield from itertools.islice(helper.tables_of_three_rows_of_0s_and_1s(), 0, None, 11)
    yield from itertools.islice(helper.some_tables_of_four_rows(), 0, None, 10)
    yield from helper.tables_of_long_numbers()


class OneTable(unittest.TestCase):
    def check(self, rows):
        size = len(rows)
        forms, char, plain, stretches, simple = of_one_table(rows)
        least = poly(char[2])
        self.assertEqual(len(forms), forms[0] + 1)
        for first, second in zip(forms[1:], forms[2:]):
            self.assertEqual(rest(poly(second), poly(first)), [])
        self.assertEqual(helper.written(helper.product_of([poly(form) for form in forms[1:]])), char[1])
        self.assertEqual((char[0], len(char[1:]), forms[-1]), (2, 2, char[2]))
        self.assertEqual(plain, [size] + helper.words_of(helper.plain([poly(form) for form in forms[1:]])).split())
        self.check_values(rows, char)
        self.check_vectors(rows, least)
        self.check_stretches(rows, char, stretches, simple)
        self.assertEqual(simple[0] == 0, helper.different_roots(rows) < len(least) - 1)
        if short(plain[1:]):
            made = helper.cut_in_rows(plain[1:], size)
            self.assertEqual(of_one_table(made), of_one_table(rows))
            self.assertEqual(asked("alike", size, told(rows, made)), [1])
            self.assertEqual(asked("carried", size, told(rows, made)), asked("carried", size, told(rows, rows)))

    def check_values(self, rows, char):
        for p in char[1:]:
            if short([p]):
                self.assertEqual(asked("value", len(rows), told(p, rows)), [len(rows)] + ["0"] * len(rows) ** 2)
        self.assertEqual(asked("value", len(rows), told("x", rows)), [len(rows)] + helper.words_of(rows).split())

    def check_vectors(self, rows, least):
        degrees = []
        for v in helper.unit(len(rows)) + [[Fraction(0)] * len(rows)]:
            first, text = asked("vector", len(rows), told(rows, [v]))
            self.assertEqual((first, rest(least, poly(text))), (1, []))
            self.assertEqual(helper.times_vector(helper.polynomial_at(poly(text), rows), v), [0] * len(rows))
            degrees.append(len(poly(text)) - 1)
        self.assertEqual(degrees[-1], 0)
        self.assertLessEqual(max(degrees), len(least) - 1)
        self.assertGreater(min(degrees[:-1]), 0)

    def check_stretches(self, rows, char, stretches, simple):
        roots = [Fraction(text) for text in stretches[1::3]]
        self.assertEqual(len(roots), stretches[0])
        self.assertEqual(roots, sorted(set(roots)))
        for root, times, free in zip(roots, stretches[2::3], stretches[3::3]):
            self.assertEqual(int(times), helper.how_often(poly(char[1]), root))
            self.assertEqual(int(free), helper.stretched_vectors(rows, root))
            self.assertTrue(1 <= int(free) <= int(times) <= len(rows))
        free_in_all = sum(int(text) for text in stretches[3::3])
        self.assertEqual(simple[0] == 2, free_in_all == len(rows))

    def test_samples(self):
        for rows in samples():
            with self.subTest(rows=helper.words_of(rows)):
                self.check(rows)


class TwoTables(unittest.TestCase):
    def test_other_axes(self):
        for size, all_axes in helper.AXES.items():
            for chain, axes in itertools.product(helper.chains(size), all_axes):
                a = helper.plain(chain)
                b = helper.by_other_axes(a, axes)
                self.assertEqual(of_one_table(a), of_one_table(b))
                self.assertEqual(asked("alike", size, told(a, b)), [1])
                self.assertEqual(asked("carries", size, told(a, b, axes)), [1])
                self.assertEqual(asked("carried", size, told(a, b)), asked("carried", size, told(b, b)))

    def test_other_forms(self):
        for size, all_axes in helper.AXES.items():
            for first, second in itertools.combinations(helper.chains(size)[::3], 2):
                a = helper.plain(first)
                b = helper.by_other_axes(helper.plain(second), all_axes[-1])
                self.assertEqual(asked("alike", size, told(a, b)), [0])
                self.assertNotEqual(asked("forms", told(a)), asked("forms", told(b)))
                for axes in all_axes + [helper.unit(size)]:
                    self.assertEqual(asked("carries", size, told(a, b, axes)), [0])

    def test_how_many_carry_is_known_by_the_forms(self):
        for size in helper.AXES:
            made = [helper.plain(chain) for chain in helper.chains(size)[::4]]
            for a, b in itertools.product(made, repeat=2):
                forms = [[poly(form) for form in asked("forms", told(rows))[1:]] for rows in (a, b)]
                number = sum(degree_in_common(p, q) for p, q in itertools.product(*forms))
                self.assertEqual(asked("carried", size, told(a, b)), [number])


# of each call how many texts it takes by n, and where its numbers start
COUNTS = {
    "forms": (1, 0, 0), "char": (1, 0, 0), "plain": (1, 0, 0), "stretches": (1, 0, 0), "simple": (1, 0, 0), "alike": (2, 0, 0),
    "value": (1, 0, 1), "vector": (1, 1, 0), "carried": (2, 0, 0), "carries": (3, 0, 0),
}
WITHOUT_N = ("forms", "char", "plain", "stretches", "simple")


class AllTen(unittest.TestCase):
    def calls(self):
        """Each call by its name, n, and how many texts of numbers it takes, behind a polynomial's or not."""
        for name, (squares, rows, ahead) in COUNTS.items():
            for n in range(1, 5):
                yield name, n, squares * n * n + rows * n, ["x"] * ahead

    def ask(self, name, n, words):
        texts = [helper.told_alone(word) for word in words]
        return asked(name, texts) if name in WITHOUT_N else asked(name, n, texts)

    def test_there_are_ten(self):
        self.assertEqual(len(COUNTS), 10)
        for name in COUNTS:
            self.assertTrue(callable(getattr(tables, name)))

    def test_the_order_of_refusals(self):
        for name, n, count, ahead in self.calls():
            self.assertGreaterEqual(self.ask(name, n, ahead + ["1"] * count)[0], 0)
            for place in range(count):
                words = ["1"] * count
                words[place] = "1000000"
                self.assertEqual(self.ask(name, n, ahead + words), [-2])
                self.assertEqual(self.ask(name, n, ahead + words + ["1"]), [-6])
                words[place - 1] = "2/4"
                self.assertEqual(self.ask(name, n, ahead + words), [-1])
                self.assertEqual(self.ask(name, n, ahead + words + ["1"]), [-6])
                if count > 4:
                    self.assertEqual(self.ask(name, n, ahead + words[:-1]), [-6])

    def test_no_text_and_other_ns(self):
        for name in COUNTS:
            for n in (0, 1, 4, 5, 4294967295):
                self.assertEqual(self.ask(name, n, []), [-6])
                self.assertEqual(self.ask(name, n, ["01"] * 20), [-6] if (name, n) != ("vector", 4) else [-1])

    def test_a_second_call_answers_as_the_first(self):
        made = []
        for name, n, count, ahead in self.calls():
            for words in (["1/2", "-3", "0", "2"] * 12, ["999999/999998", "-7", "1"] * 16, ["01"] * 48, ["1234567"] * 48):
                made.append((name, n, ahead + words[:count]))
        first = [self.ask(*arguments) for arguments in made]
        second = [self.ask(*arguments) for arguments in reversed(made)]
        self.assertEqual(first, second[::-1])


if __name__ == "__main__":
    unittest.main()

"""What is handed in stays as it is, nothing is kept, nothing is printed, whole numbers are given back."""

import contextlib
import copy
import inspect
import io
import unittest

import helper
from tablesalike import tables

ONE_TABLE = (
    "", "1", "-1/2", "x", "1000000", "1 2 3", "1 2 3 4", "2 0 0 2", "1 2 3 01", "1000000 2 3 -0",
    "2 0 0 0 2 0 0 0 3", "1/2 0 0 0 0 1/2 0 0 0 0 -1/3 0 0 0 0 2", "0 1 0 0 0 0 1 0 0 0 0 0 0 0 0 0",
    "1 1 1 1 1 1 1 1 1 1 1 1 1 1 1 1 1 1 1 1",
)
TWO_TABLES = (
    (0, ""), (1, ""), (1, "1 1"), (1, "1 -1/2"), (1, "1 1 1"), (1, "x 1000000"), (2, "1 2 3 4 4 3 2 1"),
    (2, "2 0 0 2 2 1 0 2"), (2, "1000000 0 0 2 2 1 0 2"), (2, "1000000 0 0 2 2 1 0 -0"), (5, "1 1"), (4294967295, "1"),
    (3, "2 0 0 0 2 0 0 0 3 3 0 0 0 2 0 0 0 2"), (4, " ".join(["1/2", "0", "-3", "0"] * 8)), (4, " ".join(["1"] * 40)),
)
P_AND_TABLE = (
    (0, "x", ""), (1, "0", "5"), (1, "x", "1 1"), (1, "x^1", "5"), (1, "x^9", "5"), (1, "", "01"), (1, "x^1", "1000000"),
    (2, "3/2*x^2 - x + 1", "1 2 3 4"), (2, "x^8", "1/2 0 0 -1/3"), (3, "-x", "2 0 0 0 2 0 0 0 3"), (4294967295, "x", "1"),
    (4, "x^8 - 999999/999998*x^3", " ".join(["1/2", "0", "-3", "0"] * 4)), (4, "x", " ".join(["1"] * 23)),
)
TABLE_AND_VECTOR = (
    (0, ""), (1, ""), (1, "1 0"), (1, "1/2 -1"), (1, "1 1 1"), (1, "x 1000000"), (2, "1 2 3 4 1 0"), (2, "1 2 3 4 0 0"),
    (2, "2 0 0 2 1 1"), (2, "1000000 0 0 2 2 01"), (2, "1 0 0 2 2 1000000"), (5, "1 1"), (4294967295, "1"),
    (3, "2 0 0 0 2 0 0 0 3 1 1 1"), (4, " ".join(["1/2", "0", "-3", "0", "1"] * 4)), (4, " ".join(["1"] * 24)),
)
THREE_TABLES = (
    (0, ""), (1, ""), (1, "1 1"), (1, "1 1 1"), (1, "1 1 0"), (1, "1 1 1 1"), (1, "1 x 1000000"), (2, "2 0 0 3 3 0 0 2 0 1 1 0"),
    (2, "1 2 3 4 4 3 2 1 1 0 0 1"), (2, "1 0 0 1 1000000 0 0 1 1 0 0 01"), (2, "1 0 0 1 1 0 0 1 1 0 0 1000000"), (5, "1 1 1"),
    (3, " ".join(["2 0 0 0 2 0 0 0 3"] * 3)), (4, " ".join(["1/2", "0", "-3", "0"] * 12)), (4, " ".join(["1"] * 56)),
    (4294967295, "1"),
)

OF_ONE_TABLE = (tables.forms, tables.char, tables.plain, tables.stretches, tables.simple)

# each call with its arguments, ready to be handed in
HANDED = (
    [(call, (helper.told(words),)) for call in OF_ONE_TABLE for words in ONE_TABLE]
    + [(call, (n, helper.told(words))) for call in (tables.alike, tables.carried) for n, words in TWO_TABLES]
    + [(tables.value, (n, [helper.told_alone(p)] + helper.told(words))) for n, p, words in P_AND_TABLE]
    + [(tables.value, (n, [])) for n in (0, 1, 4, 5)]
    + [(tables.vector, (n, helper.told(words))) for n, words in TABLE_AND_VECTOR]
    + [(tables.carries, (n, helper.told(words))) for n, words in THREE_TABLES]
)

# how many texts stand behind the first number, by that number
TEXTS_BEHIND = {
    "forms": lambda first: first,
    "char": lambda first: 2,
    "plain": lambda first: first * first,
    "alike": lambda first: 0,
    "value": lambda first: first * first,
    "vector": lambda first: 1,
    "carried": lambda first: 0,
    "carries": lambda first: 0,
    "stretches": lambda first: 3 * first,
    "simple": lambda first: 0,
}


class Unchanging(list):
    """A list that says so when somebody changes it, even for a while."""

    def refuse(self, *args, **kwargs):
        raise AssertionError("what was handed in is changed")

    append = clear = extend = insert = pop = remove = reverse = sort = refuse
    __setitem__ = __delitem__ = __iadd__ = __imul__ = refuse


def unchanging(arguments):
    """The same arguments, the last one and its texts as lists that can't be changed."""
    return arguments[:-1] + (Unchanging([Unchanging(text) for text in arguments[-1]]),)


class Interface(unittest.TestCase):
    def test_the_calls_and_their_arguments(self):
        expected = {
            "forms": ["a"], "char": ["a"], "alike": ["n", "texts"], "plain": ["a"], "value": ["n", "texts"],
            "vector": ["n", "texts"], "carried": ["n", "texts"], "carries": ["n", "texts"], "stretches": ["a"], "simple": ["a"],
        }
        for name, arguments in expected.items():
            self.assertEqual(list(inspect.signature(getattr(tables, name)).parameters), arguments)
            self.assertIn(name, TEXTS_BEHIND)
            self.assertIn(name, [call.__name__ for call, _ in HANDED])

    def test_what_is_handed_in_is_as_it_was(self):
        for call, arguments in HANDED:
            handed = copy.deepcopy(arguments)
            call(*handed)
            self.assertEqual(handed, arguments)

    def test_what_is_handed_in_is_not_changed_for_a_while(self):
        for call, arguments in HANDED:
            self.assertEqual(call(*unchanging(arguments)), call(*arguments))

    def test_one_list_as_several_texts(self):
        text = [50]
        self.assertEqual(tables.forms([text] * 4), tables.forms(helper.told("2 2 2 2")))
        self.assertEqual(tables.plain([text] * 4), tables.plain(helper.told("2 2 2 2")))
        self.assertEqual(tables.alike(2, [text] * 8), [1])
        self.assertEqual(helper.shown(tables.value(2, [text] * 5)), [2, "2", "0", "0", "2"])
        self.assertEqual(helper.shown(tables.vector(2, [text] * 6)), [1, "x - 4"])
        self.assertEqual(helper.shown(tables.stretches([text] * 4)), [2, "0", "1", "1", "4", "1", "1"])
        self.assertEqual(tables.simple([text] * 4), [2])
        self.assertEqual(tables.carried(2, [text] * 8), [2])
        self.assertEqual(tables.carries(2, [text] * 12), [0])
        self.assertEqual(tables.carries(1, [text] * 3), [1])

    def test_a_second_call_answers_as_the_first(self):
        first = [call(*arguments) for call, arguments in HANDED]
        second = [call(*arguments) for call, arguments in reversed(HANDED)]
        self.assertEqual(first, second[::-1])

    def test_what_was_given_back_may_be_changed(self):
        for call, arguments in HANDED:
            first = call(*arguments)
            kept = list(first)
            first.clear()
            self.assertEqual(call(*arguments), kept)

    def test_lists_of_whole_numbers(self):
        for call, arguments in HANDED:
            answer = call(*arguments)
            self.assertIs(type(answer), list)
            self.assertEqual({type(number) for number in answer}, {int})
            if answer[0] < 0:
                self.assertEqual(len(answer), 1)
            else:
                count = TEXTS_BEHIND[call.__name__](answer[0])
                self.assertEqual(len(helper.shown(answer)), count + 1)

    def test_nothing_is_printed(self):
        out = io.StringIO()
        with contextlib.redirect_stdout(out), contextlib.redirect_stderr(out):
            for call, arguments in HANDED:
                call(*arguments)
        self.assertEqual(out.getvalue(), "")


if __name__ == "__main__":
    unittest.main()

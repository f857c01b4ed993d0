"""What is handed in stays as it is, nothing is kept, nothing is printed, whole numbers are given back."""

import contextlib
import copy
import io
import unittest

import helper
from tablesalike import tables

INPUTS = (
    "", "1", "-1/2", "x", "1000000", "1 2 3", "1 2 3 4", "2 0 0 2", "1 2 3 01", "1000000 2 3 -0",
    "2 0 0 0 2 0 0 0 3", "1/2 0 0 0 0 1/2 0 0 0 0 -1/3 0 0 0 0 2", "0 1 0 0 0 0 1 0 0 0 0 0 0 0 0 0",
    "1 1 1 1 1 1 1 1 1 1 1 1 1 1 1 1 1 1 1 1",
)
CALLS = (tables.forms, tables.char)


class Unchanging(list):
    """A list that says so when somebody changes it, even for a while."""

    def refuse(self, *args, **kwargs):
        raise AssertionError("what was handed in is changed")

    append = clear = extend = insert = pop = remove = reverse = sort = refuse
    __setitem__ = __delitem__ = __iadd__ = __imul__ = refuse


class Interface(unittest.TestCase):
    def test_what_is_handed_in_is_as_it_was(self):
        for call in CALLS:
            for words in INPUTS:
                handed = helper.told(words)
                before = copy.deepcopy(handed)
                call(handed)
                self.assertEqual(handed, before)

    def test_what_is_handed_in_is_not_changed_for_a_while(self):
        for call in CALLS:
            for words in INPUTS:
                handed = Unchanging([Unchanging(text) for text in helper.told(words)])
                self.assertEqual(call(handed), call(helper.told(words)))

    def test_one_list_as_several_texts(self):
        text = [50]
        self.assertEqual(tables.forms([text] * 4), tables.forms(helper.told("2 2 2 2")))

    def test_a_second_call_answers_as_the_first(self):
        for call in CALLS:
            first = [call(helper.told(words)) for words in INPUTS]
            second = [call(helper.told(words)) for words in reversed(INPUTS)]
            self.assertEqual(first, second[::-1])

    def test_what_was_given_back_may_be_changed(self):
        for call in CALLS:
            for words in INPUTS:
                handed = helper.told(words)
                first = call(handed)
                kept = list(first)
                first.clear()
                self.assertEqual(call(handed), kept)

    def test_the_calls_do_not_disturb_one_another(self):
        alone = tables.forms(helper.told("2 0 0 2"))
        tables.char(helper.told("1 2 3 4"))
        self.assertEqual(tables.forms(helper.told("2 0 0 2")), alone)

    def test_lists_of_whole_numbers(self):
        for call in CALLS:
            for words in INPUTS:
                answer = call(helper.told(words))
                self.assertIs(type(answer), list)
                self.assertEqual({type(number) for number in answer}, {int})
                if answer[0] < 0:
                    self.assertEqual(len(answer), 1)
                else:
                    self.assertEqual(len(helper.shown(answer)), answer[0] + 1)

    def test_nothing_is_printed(self):
        out = io.StringIO()
        with contextlib.redirect_stdout(out), contextlib.redirect_stderr(out):
            for call in CALLS:
                for words in INPUTS:
                    call(helper.told(words))
        self.assertEqual(out.getvalue(), "")

    def test_the_arguments_name(self):
        self.assertEqual(tables.forms(a=[[48]]), [1, 1, 120])
        self.assertEqual(tables.char(a=[[48]]), [2, 1, 120, 1, 120])


if __name__ == "__main__":
    unittest.main()

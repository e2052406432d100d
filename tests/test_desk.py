"""The interface: calls in a list, answers in a list, and nothing kept or changed."""

import io
import unittest
from contextlib import redirect_stderr, redirect_stdout

from helper import SCREEN, begin, keys, split

from cavekeys.desk import answers


class Watched(list):
    """A list that may only be read."""

    def refuse(self, *ignored):
        raise AssertionError("what is handed in is changed")

    __setitem__ = __delitem__ = __iadd__ = __imul__ = refuse
    append = extend = insert = pop = remove = clear = sort = reverse = refuse


class AnswersTest(unittest.TestCase):
    def test_numbers_of_each_call(self):
        self.assertEqual(answers([0, 1]), [1, 0])
        self.assertEqual(answers([0, 1, 1, 46]), [1, 0, 1, 1])
        self.assertEqual(answers([0, 1, 1, 0, 0, 0]), [1, 0, 1, 0, 1, -3])
        given = answers([0, 1, 2])
        self.assertEqual(given[:4], [1, 0, 860, 859])
        self.assertEqual(len(given), 4 + 859)

    def test_numbers_that_look_like_calls(self):
        # Seeds and keys of 0, 1 and 2 are no calls.
        self.assertEqual(answers([0, 2, 0, 1, 1, 2, 1, 1, 1, 0]), [1, 0, 1, 0, 1, 0, 1, 0, 1, 0])

    def test_kinds(self):
        given = answers(begin(114) + keys("jnnnjjjjjjjj>jjyuuu.") + begin(0) + SCREEN + keys("h"))
        self.assertIs(type(given), list)
        self.assertEqual({type(number) for number in given}, {int})

    def test_what_is_handed_in_is_not_changed(self):
        calls = begin(1) + keys("hjklyubn.,qr>x") + SCREEN + begin(0) + begin(2) + SCREEN
        before = list(calls)
        self.assertEqual(answers(Watched(calls)), answers(calls))
        self.assertEqual(calls, before)

    def test_what_is_given_back_is_new(self):
        calls = begin(1) + SCREEN
        given = answers(calls)
        told = list(given)
        given.clear()
        self.assertEqual(answers(calls), told)

    def test_same_again(self):
        lists = [begin(seed) + keys("lljjhhkk.,>") + SCREEN for seed in (1, 2, 161)]
        first = [answers(calls) for calls in lists]
        second = [answers(calls) for calls in reversed(lists)]
        self.assertEqual(first, second[::-1])

    def test_long_lists(self):
        for calls in (
            begin(1) + [1, 46] * 999,
            begin(1) + keys("lh") * 499 + keys("."),
            begin(1) * 1000,
            begin(1) + begin(0) * 999,
            begin(1) + keys("x") * 999,
        ):
            self.assertEqual(len(calls), 2000)
            self.assertEqual(len(split(answers(calls))), 1000)

    def test_many_screens(self):
        parts = split(answers(begin(1) + SCREEN * 999))
        self.assertEqual(parts, [[0]] + [parts[1]] * 999)

    def test_nothing_is_printed(self):
        out = io.StringIO()
        with redirect_stdout(out), redirect_stderr(out):
            answers(begin(1) + keys("x.") + SCREEN)
        self.assertEqual(out.getvalue(), "")


if __name__ == "__main__":
    unittest.main()

"""The interface: the form of what goes in and out, and that nothing is kept or changed."""

import contextlib
import io
import sys
import unittest

import textsift
import textsift.sift
from tests.helper import ask, begin, check, drop, feed
from textsift.sift import answers

LINE = (check(".a[*]") + check("a") + ask("..a") + ask("[*]", 1) + ask("", 2) + feed('[1,{"a":["x",null]},[') + drop(1)
        + drop(7) + feed('true],12') + begin() + ask("") + feed('{"\u00e4":[]}') + feed("x") + feed(""))

ANSWERED = [2, 0, 2, 1, -1, 2, 0, 0, 2, 0, 1, 1, -1, 11, 0, 5, 2, 1, 49, 1, 2, 0, 1, 2, 1, 1, 0, 1, -1, 1, 0, 1, 0,
            2, 0, 0, 15, 0, 1, 1, 0, 3, 2, 195, 164, 1, 0, 1, 2, 1, 2, 0, 1, 1, 1, -2]


class InterfaceTest(unittest.TestCase):
    def test_a_line_of_every_call(self):
        self.assertEqual(answers(list(LINE)), ANSWERED)

    def test_smallest_lines(self):
        self.assertEqual(answers([1, 0]), [2, 0, 0])
        self.assertEqual(answers([2]), [1, 0])
        self.assertEqual(answers([3, 0, 0]), [2, 0, 0])
        self.assertEqual(answers([4, 0]), [1, -1])
        self.assertEqual(answers([5, 0]), [1, 0])
        self.assertEqual(answers([5, 1, 120]), [1, 1])

    def test_longest_rows(self):
        self.assertEqual(answers([1, 2000] + [46] * 2000 + [3, 16383, 2000] + [255] * 2000), [1, -1, 1, -1])
        self.assertEqual(answers([5, 16000] + [32] * 16000 + [4, 16383]), [1, 0, 1, -1])

    def test_bytes_that_look_like_calls(self):
        self.assertEqual(answers([1, 3, 2, 2, 2, 2, 5, 2, 5, 5, 2]), [1, -1, 1, 0, 1, 1, 1, 0])

    def test_what_is_handed_in_stays_the_same(self):
        line = list(LINE)
        answers(line)
        self.assertEqual(line, LINE)

    def test_a_second_time_gives_the_same(self):
        line = list(LINE)
        first = answers(line)
        copy = list(first)
        second = answers(line)
        self.assertEqual(second, copy)
        first.append(0)
        second.clear()
        self.assertEqual(answers(line), copy)

    def test_nothing_is_kept_between_lines(self):
        answers(ask("") + feed('["x'))
        self.assertEqual(answers(feed('"y"') + ask("")), [1, 0, 2, 0, 0])
        answers(feed("x"))
        self.assertEqual(answers(feed("1")), [1, 0])

    def test_whole_numbers_alone_in_a_list(self):
        given = answers(list(LINE))
        self.assertIs(type(given), list)
        self.assertEqual({type(found) for found in given}, {int})

    def test_nothing_is_printed_or_imported(self):
        before = set(sys.modules)
        shown = io.StringIO()
        with contextlib.redirect_stdout(shown), contextlib.redirect_stderr(shown):
            answers(list(LINE))
        self.assertEqual(shown.getvalue(), "")
        self.assertEqual(set(sys.modules), before)

    def test_names_of_the_interface(self):
        self.assertIs(textsift.sift.answers, answers)
        self.assertEqual(answers.__code__.co_varnames[:answers.__code__.co_argcount], ("calls",))

    def test_depth_does_not_hang_on_nested_calls(self):
        limit = sys.getrecursionlimit()
        sys.setrecursionlimit(150)
        try:
            given = answers(ask("..[*]" * 8) + feed("[" * 32 + "]" * 32 + " " * 15000))
        finally:
            sys.setrecursionlimit(limit)
        self.assertEqual(given[3], 1 + 3 * 24 + 2 * 24)


if __name__ == "__main__":
    unittest.main()

"""The interface: the form of what goes in and out, and that nothing is kept or changed."""

import contextlib
import io
import sys
import unittest

import textsift
import textsift.sift
from tests.helper import ask, asked, begin, check, depth, drop, end, feed, place
from textsift.sift import answers

LINE = (check(".a[*]") + check("a") + ask("..a") + ask("[*]", 1) + ask("", 2) + feed('[1,{"a":["x",null]},[') + place()
        + depth() + asked() + drop(1) + drop(7) + feed('true],12') + asked() + end() + end() + feed("") + begin()
        + ask("") + feed('{"\u00e4":[]}') + feed("x") + feed("") + end() + begin() + ask("") + place() + feed("-7")
        + end() + depth())

ANSWERED = [2, 0, 2, 1, -1, 2, 0, 0, 2, 0, 1, 1, -1, 11, 0, 5, 2, 1, 49, 1, 2, 0, 1, 2, 1, 2, 0, 21, 2, 0, 2, 3, 0, 0,
            1, 1, 0, 1, -1, 1, 0, 2, 0, 0, 1, 1, 1, -2, 1, -2, 1, 0, 2, 0, 0, 15, 0, 1, 1, 0, 3, 2, 195, 164, 1, 0, 1,
            2, 1, 2, 0, 1, 1, 1, -2, 1, -2, 1, 0, 2, 0, 0, 2, 0, 0, 1, 0, 6, 0, 5, 1, 2, 45, 55, 2, 0, 0]


def refuse(self, *given):
    raise AssertionError("what is handed in was changed")


class OnlyRead(list):
    """A list that tells of every change, also of one that is taken back."""

    append = extend = insert = pop = remove = clear = sort = reverse = refuse
    __setitem__ = __delitem__ = __iadd__ = __imul__ = refuse


class InterfaceTest(unittest.TestCase):
    def test_a_line_of_every_call(self):
        self.assertEqual(answers(list(LINE)), ANSWERED)

    def test_smallest_lines(self):
        self.assertEqual(answers([1, 0]), [2, 0, 0])
        self.assertEqual(answers([2]), [1, 0])
        self.assertEqual(answers([3, 0, 0]), [2, 0, 0])
        self.assertEqual(answers([4, 0]), [1, -1])
        self.assertEqual(answers([5, 0]), [1, 0])
        self.assertEqual(answers([5, 1, 120]), [1, 1])
        self.assertEqual(answers([6]), [1, 1])
        self.assertEqual(answers([7]), [2, 0, 0])
        self.assertEqual(answers([8]), [2, 0, 0])
        self.assertEqual(answers([9]), [1, 0])

    def test_end_of_a_text_without_and_with_a_number(self):
        self.assertEqual(answers([3, 0, 0, 5, 2, 91, 93, 6]), [2, 0, 0, 6, 0, 1, 1, 1, 2, 1, 1, 0])
        self.assertEqual(answers([3, 0, 0, 5, 2, 49, 50, 6]), [2, 0, 0, 1, 0, 6, 0, 5, 1, 2, 49, 50])

    def test_sixty_calls(self):
        self.assertEqual(answers([6] + [7] * 20 + [8] * 20 + [9] * 19), [1, 1] + [2, 0, 0] * 40 + [1, 0] * 19)

    def test_longest_rows(self):
        self.assertEqual(answers([1, 2000] + [46] * 2000 + [3, 16383, 2000] + [255] * 2000), [1, -1, 1, -1])
        self.assertEqual(answers([5, 16000] + [32] * 16000 + [4, 16383]), [1, 0, 1, -1])

    def test_rows_behind_calls_without_any(self):
        self.assertEqual(answers([6, 1, 0, 7, 5, 0, 8, 3, 0, 0, 9, 4, 0]),
                         [1, 1, 2, 0, 0, 2, 0, 0, 1, -2, 2, 0, 0, 2, 0, 0, 2, 0, 0, 1, 0])

    def test_bytes_that_look_like_calls(self):
        self.assertEqual(answers([1, 3, 2, 2, 2, 2, 5, 2, 5, 5, 2]), [1, -1, 1, 0, 1, 1, 1, 0])

    def test_what_is_handed_in_stays_the_same(self):
        line = list(LINE)
        answers(line)
        self.assertEqual(line, LINE)

    def test_what_is_handed_in_is_never_changed(self):
        self.assertEqual(answers(OnlyRead(LINE)), ANSWERED)

    def test_a_second_time_gives_the_same(self):
        line = list(LINE)
        first = answers(line)
        copy = list(first)
        second = answers(line)
        self.assertEqual(second, copy)
        first.append(0)
        second.clear()
        self.assertEqual(answers(line), copy)

    def test_nothing_is_kept_between_lines(self):
        answers(ask("") + feed('["x'))
        self.assertEqual(answers(feed('"y"') + ask("")), [1, 0, 2, 0, 0])
        answers(feed("x"))
        self.assertEqual(answers(feed("1")), [1, 0])
        answers(ask("") + feed("1") + end())
        self.assertEqual(answers(feed("[1") + end()), [1, 0, 1, 1])
        answers(ask("") + feed("[[") + end())
        self.assertEqual(answers(place() + depth() + asked()), [2, 0, 0, 2, 0, 0, 1, 0])

    def test_whole_numbers_alone_in_a_list(self):
        given = answers(list(LINE))
        self.assertIs(type(given), list)
        self.assertEqual({type(found) for found in given}, {int})

    def test_nothing_is_printed_or_imported(self):
        before = set(sys.modules)
        shown = io.StringIO()
        with contextlib.redirect_stdout(shown), contextlib.redirect_stderr(shown):
            answers(list(LINE))
        self.assertEqual(shown.getvalue(), "")
        self.assertEqual(set(sys.modules), before)

    def test_names_of_the_interface(self):
        self.assertIs(textsift.sift.answers, answers)
        self.assertEqual(answers.__code__.co_varnames[:answers.__code__.co_argcount], ("calls",))

    def test_depth_does_not_hang_on_nested_calls(self):
        limit = sys.getrecursionlimit()
        sys.setrecursionlimit(150)
        try:
            given = answers(ask("..[*]" * 8) + feed("[" * 32 + "]" * 32 + " " * 15000))
        finally:
            sys.setrecursionlimit(limit)
        self.assertEqual(given[3], 1 + 3 * 24 + 2 * 24)


if __name__ == "__main__":
    unittest.main()

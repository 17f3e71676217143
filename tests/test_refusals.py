"""T6 and the order of refusals: what feed refuses, and that it changes nothing."""

import unittest

from tests.helper import ARRAY, ask, begin, closed, drop, feed, number, opened, right, run, string, wrong


def blanks(size):
    """Calls that feed so many blanks."""
    return [feed(" " * min(16000, size - at)) for at in range(0, size, 16000)]


class TooManyTest(unittest.TestCase):
    def test_just_65536_are_taken(self):
        given = run(ask(""), *blanks(65536 - 4), feed("null"), feed(""), feed(" "))
        self.assertEqual(given[-3:], [right([6, 1, 0]), right(), [-3]])

    def test_one_more_is_refused_and_changes_nothing(self):
        given = run(ask(""), *blanks(65536 - 4), feed("null "), feed("null"))
        self.assertEqual(given[-2:], [[-3], right([6, 1, 0])])

    def test_none_of_a_piece_too_long_is_taken(self):
        given = run(ask(""), *blanks(64000), feed('"' + "x" * 1536), feed('"' + "x" * 1534 + '"'))
        self.assertEqual(given[-2:], [[-3], right(string(1, "x" * 1534))])

    def test_a_piece_too_long_is_not_found_wrong(self):
        given = run(*blanks(65535), feed("xx"), feed("1"), feed(" "))
        self.assertEqual(given[-3:], [[-3], [0], [-3]])

    def test_the_bytes_of_a_wrong_piece_before_the_wrong_one_count(self):
        given = run(*blanks(60000), feed(" " * 5000 + "x" + " " * 100), feed(" " * 536), feed(" " * 537))
        self.assertEqual(given[-3:], [[1], [-2], [-3]])

    def test_the_wrong_byte_and_what_is_behind_it_do_not_count(self):
        given = run(*blanks(65000), feed("x" + " " * 400), feed(" " * 536), feed(" " * 537))
        self.assertEqual(given[-3:], [[1], [-2], [-3]])

    def test_counting_begins_anew_with_begin(self):
        given = run(*blanks(60000), begin(), feed(" " * 6000), feed("1 "))
        self.assertEqual(given[-3:], [[0], [0], [0]])

    def test_just_65536_are_taken_behind_begin_too(self):
        given = run(feed("[1"), begin(), *blanks(65535), feed("  "), feed(" "), feed(" "))
        self.assertEqual(given[-3:], [[-3], [0], [-3]])

    def test_refused_pieces_are_not_counted(self):
        given = run(*blanks(62536), feed(" " * 3001), feed(" " * 3000), feed(" "), feed(""))
        self.assertEqual(given[-4:], [[-3], [0], [-3], [0]])


class BehindWrongTest(unittest.TestCase):
    def test_feed_behind_a_wrong_text(self):
        given = run(ask(""), feed("[1,"), feed("]"), feed("2]"), feed(""), feed("]"))
        self.assertEqual(given[1:], [right(opened(1, ARRAY), number(0, "1")), wrong(), [-2], [-2], [-2]])

    def test_both_at_once(self):
        given = run(*blanks(64000), feed("x"), feed(" " * 1537), feed(" " * 1536), feed(""))
        self.assertEqual(given[-4:], [[1], [-3], [-2], [-2]])

    def test_wrong_with_all_bytes_taken(self):
        given = run(*blanks(65535), feed("x"), feed(" "), feed("  "), feed(""))
        self.assertEqual(given[-4:], [[1], [-2], [-3], [-2]])

    def test_a_text_is_wrong_from_then_on(self):
        given = run(feed("x"), feed("1"), ask(""), feed("1"), drop(0), feed("1"), begin(), feed("1"))
        self.assertEqual(given, [[1], [-2], [0, 0], [-2], [0], [-2], [0], [0]])


class NothingChangesTest(unittest.TestCase):
    def test_empty_pieces(self):
        self.assertEqual(run(feed(""), feed("")), [[0], [0]])
        given = run(ask(""), feed(""), feed("["), feed(""), feed("1"), feed(""), feed("]"), feed(""))
        self.assertEqual(given[1:], [right(), right(opened(1, ARRAY)), right(), right(), right(),
                                     right(number(0, "1"), closed(ARRAY)), right()])

    def test_refused_calls_between_pieces(self):
        for refused in (ask("", 2), ask("a"), ask(".a" * 9), drop(1), drop(16383)):
            plain = run(ask("..[*]"), feed('[["a'), feed('"],1'), feed("] "))
            given = run(ask("..[*]"), refused, feed('[["a'), refused, feed('"],1'), refused, feed("] "), refused)
            self.assertEqual(given[::2], plain)
            self.assertEqual(given[1::2], [[-1]] * 4)

    def test_a_seventeenth_question_between_pieces(self):
        asks = [ask("[0]"), ask("[1]", 1)] + [ask("[2]")] * 14
        given = run(*asks, feed("[["), ask(""), feed("1],["), ask("..[*]", 1), feed('2],"x"]'))
        self.assertEqual(given[16:], [right(opened(1, ARRAY)), [-2], right(number(0, "1"), closed(ARRAY),
                                      opened(2, ARRAY)), [-2], right(string(65532, "x"))])


if __name__ == "__main__":
    unittest.main()

"""T6 and the order of refusals: what is refused, and that it changes nothing."""

import unittest

from tests.helper import (ARRAY, ask, asked, begin, blanks, check, closed, depth, drop, end, feed, number, opened,
                          place, right, run, string, wrong)

LOOK = [place(), depth(), asked()]
FULL = [ask("[0]"), ask("..a", 1)] + [ask("..[1]")] * 14


class TooManyTest(unittest.TestCase):
    def test_just_65536_are_taken(self):
        given = run(ask(""), *blanks(65536 - 4), feed("null"), feed(""), feed(" "))
        self.assertEqual(given[-3:], [right([6, 1, 0]), right(), [-3]])

    def test_one_more_is_refused_and_changes_nothing(self):
        given = run(ask(""), *blanks(65536 - 4), feed("null "), feed("null"))
        self.assertEqual(given[-2:], [[-3], right([6, 1, 0])])

    def test_none_of_a_piece_too_long_is_taken(self):
        given = run(ask(""), *blanks(64000), feed('"' + "x" * 1536), feed('"' + "x" * 1534 + '"'))
        self.assertEqual(given[-2:], [[-3], right(string(1, "x" * 1534))])

    def test_a_piece_too_long_is_not_found_wrong(self):
        given = run(*blanks(65535), feed("xx"), feed("1"), feed(" "))
        self.assertEqual(given[-3:], [[-3], [0], [-3]])

    def test_the_bytes_of_a_wrong_piece_before_the_wrong_one_count(self):
        given = run(*blanks(60000), feed(" " * 5000 + "x" + " " * 100), feed(" " * 536), feed(" " * 537))
        self.assertEqual(given[-3:], [[1], [-2], [-3]])

    def test_the_wrong_byte_and_what_is_behind_it_do_not_count(self):
        given = run(*blanks(65000), feed("x" + " " * 400), feed(" " * 536), feed(" " * 537))
        self.assertEqual(given[-3:], [[1], [-2], [-3]])

    def test_counting_begins_anew_with_begin(self):
        given = run(*blanks(60000), begin(), feed(" " * 6000), feed("1 "))
        self.assertEqual(given[-3:], [[0], [0], [0]])

    def test_just_65536_are_taken_behind_begin_too(self):
        given = run(feed("[1"), begin(), *blanks(65535), feed("  "), feed(" "), feed(" "))
        self.assertEqual(given[-3:], [[-3], [0], [-3]])

    def test_refused_pieces_are_not_counted(self):
        given = run(*blanks(62536), feed(" " * 3001), feed(" " * 3000), feed(" "), feed(""))
        self.assertEqual(given[-4:], [[-3], [0], [-3], [0]])


class BehindWrongTest(unittest.TestCase):
    def test_feed_behind_a_wrong_text(self):
        given = run(ask(""), feed("[1,"), feed("]"), feed("2]"), feed(""), feed("]"))
        self.assertEqual(given[1:], [right(opened(1, ARRAY), number(0, "1")), wrong(), [-2], [-2], [-2]])

    def test_both_at_once(self):
        given = run(*blanks(64000), feed("x"), feed(" " * 1537), feed(" " * 1536), feed(""))
        self.assertEqual(given[-4:], [[1], [-3], [-2], [-2]])

    def test_wrong_with_all_bytes_taken(self):
        given = run(*blanks(65535), feed("x"), feed(" "), feed("  "), feed(""))
        self.assertEqual(given[-4:], [[1], [-2], [-3], [-2]])

    def test_a_text_is_wrong_from_then_on(self):
        given = run(feed("x"), feed("1"), ask(""), feed("1"), drop(0), feed("1"), begin(), feed("1"))
        self.assertEqual(given, [[1], [-2], [0, 0], [-2], [0], [-2], [0], [0]])


class NothingChangesTest(unittest.TestCase):
    def test_empty_pieces(self):
        self.assertEqual(run(feed(""), feed("")), [[0], [0]])
        given = run(ask(""), feed(""), feed("["), feed(""), feed("1"), feed(""), feed("]"), feed(""))
        self.assertEqual(given[1:], [right(), right(opened(1, ARRAY)), right(), right(), right(),
                                     right(number(0, "1"), closed(ARRAY)), right()])

    def test_refused_calls_between_pieces(self):
        for refused in (ask("", 2), ask("a"), ask(".a" * 9), drop(1), drop(16383)):
            plain = run(ask("..[*]"), feed('[["a'), feed('"],1'), feed("] "))
            given = run(ask("..[*]"), refused, feed('[["a'), refused, feed('"],1'), refused, feed("] "), refused)
            self.assertEqual(given[::2], plain)
            self.assertEqual(given[1::2], [[-1]] * 4)

    def test_a_seventeenth_question_between_pieces(self):
        asks = [ask("[0]"), ask("[1]", 1)] + [ask("[2]")] * 14
        given = run(*asks, feed("[["), ask(""), feed("1],["), ask("..[*]", 1), feed('2],"x"]'))
        self.assertEqual(given[16:], [right(opened(1, ARRAY)), [-2], right(number(0, "1"), closed(ARRAY),
                                      opened(2, ARRAY)), [-2], right(string(65532, "x"))])


class EveryRefusalTest(unittest.TestCase):
    """Each refusal of each call, looked at from both sides."""

    def unchanged(self, before, refused, answer, behind):
        """The call is refused with that number, and all else is answered as if it hadn't been asked."""
        plain = run(*before, *LOOK, *behind, *LOOK)
        given = run(*before, *LOOK, refused, *LOOK, *behind, *LOOK)
        at = len(before) + len(LOOK)
        calls = [call[:40] for call in before + [refused]]
        self.assertEqual(given[at], [answer], calls)
        self.assertEqual(given[at + 1:at + 1 + len(LOOK)], given[len(before):at], calls)
        self.assertEqual(given[:at] + given[at + 1 + len(LOOK):], plain, calls)

    def texts(self):
        """Calls that begin a text, and calls that go on with it, for each kind of place where a call may come."""
        text = ' {"a" : ["x\\u0041\u20ac", -1.5e2, null, [[true]]], "b" : 12} '.encode("utf-8")
        for at in range(len(text) + 1):
            yield [feed(text[:at])], [feed(text[at:]), end()]
        for size in (1, 2, 3):
            yield [feed("120"[:size])], [feed("120"[size:]), end()]
            yield [feed("120"[:size])], [end(), end()]
        yield [feed("[[1")], [end(), feed("")]
        yield [feed("[[1]x")], [end(), feed(""), begin(), feed("[1"), end()]
        yield [feed("[[1"), end()], [end(), feed(""), begin(), ask(""), feed("1"), end()]
        yield [feed("12"), end()], [end(), feed(""), begin(), ask(""), feed("1"), end()]

    def test_check(self):
        for before, behind in self.texts():
            for path in ("a", ".a" * 9, "[01]"):
                self.unchanged([ask(""), *before], check(path), -1, behind)

    def test_ask(self):
        for before, behind in self.texts():
            for refused in (ask("", 2), ask("", 16383), ask("a"), ask("a", 1), ask("a", 2), ask(".a" * 9)):
                self.unchanged([ask("..[*]"), *before], refused, -1, behind + [ask("")])
                self.unchanged([*FULL, *before], refused, -1, behind + [drop(3), ask("")])
            for refused in (ask(""), ask("..[*]", 1), ask(".a")):
                self.unchanged([*FULL, *before], refused, -2, behind + [drop(3), ask("")])

    def test_drop(self):
        for before, behind in self.texts():
            for wanted in (1, 3, 15, 16, 16383):
                self.unchanged([ask("..[*]"), ask(".b"), ask("", 1), drop(1), *before], drop(wanted), -1, behind)
            self.unchanged(before, drop(0), -1, behind)
            self.unchanged([*FULL, *before], drop(16), -1, behind)

    def test_feed_of_too_much(self):
        head = [ask(""), *blanks(60000)]
        for before, behind in list(self.texts())[::4]:
            taken = run(*head, *before, place())[-1][1]
            for refused in (b" ", b"x"):
                self.unchanged([*head, *before], feed(refused * (65536 - taken + 1)), -3, behind)
        for refused in (feed("1 "), feed("xx"), feed("[" * 2000)):
            self.unchanged([ask(""), *blanks(65535)], refused, -3, [feed("1"), end()])
            self.unchanged([ask(""), *blanks(65534), feed("[")], refused, -3, [feed("]"), end()])

    def test_feed_of_too_much_behind_a_wrong_byte_or_the_end(self):
        for over in ([feed("x")], [end()], [feed("1"), end()], [feed("[1}")]):
            self.unchanged([ask(""), *blanks(64000), *over], feed(" " * 1537), -3, [end(), feed(""), begin(), end()])

    def test_feed_and_end_behind_a_wrong_byte_or_the_end(self):
        overs = [[feed("x")], [feed("[[1,]")], [feed('{"a":['), feed("}")], [feed(""), end()], [feed("12"), end()],
                 [feed("[["), end()], [feed('{"a":"x'), end()], [feed("[1]"), end()], [end()], [feed(" 1]")]]
        for over in overs:
            for asks in ([], [ask("")], [ask(".a"), ask("..[*]", 1)], FULL):
                for refused in (feed(""), feed(" "), feed("]"), feed("1"), feed("x"), end()):
                    self.unchanged([*asks, *over], refused, -2, [feed(""), end(), ask(".c"), drop(0), begin(),
                                                                 feed("[1"), feed("]"), end()])

    def test_refused_twice(self):
        given = run(ask(""), feed("[1"), ask("a"), ask("a"), drop(1), drop(1), *LOOK, feed("2]"), end(), end(), end(),
                    feed(""), *LOOK)
        self.assertEqual(given[2:6], [[-1]] * 4)
        self.assertEqual(given[6:9], [[0, 2], [0, 1], [0, 0]])
        self.assertEqual(given[9:], [right(number(0, "12"), closed(ARRAY)), [0], [-2], [-2], [-2], [0, 4], [0, 0],
                                     [0, 0]])


if __name__ == "__main__":
    unittest.main()

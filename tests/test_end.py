"""end: which bytes are a text, what only the end tells, and what is answered behind it."""

import unittest

from tests.helper import (ARRAY, OBJECT, ask, asked, begin, blanks, check, closed, completed, depth, drop, end, feed,
                          is_text, name, number, opened, place, raw, right, run, string, word, wrong)

BLANKS = (" ", "\t", "\n", "\r", " \t\n\r", " " * 50)

# Every kind of value but numbers, and what is told of it where question 0 chooses it.
OTHERS = [
    ("null", word(1, 0)), ("false", word(1, 1)), ("true", word(1, 2)), ('""', string(1, "")), ('"x"', string(1, "x")),
    ('"\\u00e4\\n"', string(1, "\u00e4\n")), ('"\u20ac"', string(1, "\u20ac")),
    ('"\\ud83d\\ude00"', string(1, "\U0001f600")), ("[]", opened(1, ARRAY) + closed(ARRAY)),
    ("{}", opened(1, OBJECT) + closed(OBJECT)),
    ("[1]", opened(1, ARRAY) + number(0, "1") + closed(ARRAY)),
    ('{"a":1}', opened(1, OBJECT) + name("a") + number(0, "1") + closed(OBJECT)),
]
NUMBERS = ["0", "-0", "7", "10", "-12", "0.0", "0.50", "-0.1", "12.340", "0e0", "1e5", "1E5", "1e+5", "1E-05",
           "0.1e-007", "1234567890", "-0.0E+0", "1" * 64, "-" + "9" * 63, "0." + "0" * 62, "1e" + "0" * 62]

UNFINISHED = [
    "", " ", "\n", " \t\n\r", "[", "[ ", "{", "{ ", "[[", '[{', '{"a":[', '{"a":{', "[1", "[-", "[1.", "[1e", "[12 ",
    "[1,", "[1, ", "[1,2", '["', '["a', '["a"', '["a",', "[n", "[nul", "[null", "[tru", "[true", "[fals", "[[]", "[{}",
    "[[1]", '[{"a":1}', '{"', '{"a', '{"a"', '{"a" ', '{"a":', '{"a": ', '{"a":1', '{"a":1.', '{"a":1 ', '{"a":1,',
    '{"a":1, ', '{"a":1,"', '{"a":1,"b"', '{"a":"', '{"a":"b', '{"a":"b"', '{"a":t', '{"a":true', '{"a":[]', '{"a":{}',
    '{"a":[1]', "[" * 32, "[" * 32 + "1", "[" * 32 + "]" * 31, '"', '"a', '"a ', '"\\', '"\\u', '"\\u0', '"\\u00',
    '"\\u004', '"\\u0041', '"\\"', '"\\\\', '"\\ud83d', '"\\ud83d\\', '"\\ud83d\\u', '"\\ud83d\\ud', '"\\ud83d\\ude0',
    '"\\ud83d\\ude00', b'"\xc3', b'"\xe2', b'"\xe2\x82', b'"\xf0', b'"\xf0\x9f', b'"\xf0\x9f\x98', b'["\xe2\x82',
    '["\\', '{"\\u00', b'{"\xc3', "n", "nu", "nul", "f", "fa", "fal", "fals", "t", "tr", "tru", " tru", "-", " -", "1.",
    "-1.", "0.", "1e", "1E", "0e", "1e+", "1e-", "1E+", "1.5e", "1.5E-", "-0.0e+", "1" * 62 + ".", "1" * 62 + "e",
    "1" * 61 + "e+",
]


class TextsTest(unittest.TestCase):
    def test_each_kind_alone(self):
        for text, told in OTHERS:
            for behind in ("",) + BLANKS:
                for before in ("",) + BLANKS:
                    given = run(ask(""), feed(before + text + behind), end())
                    self.assertEqual(given[1:], [right(told), [0]], text)
                    self.assertEqual(run(feed(before + text + behind), end()), [[0], [0]], text)

    def test_each_kind_within_arrays_and_objects(self):
        for text in [text for text, told in OTHERS] + NUMBERS:
            for head, tail in (("[", "]"), ("[ ", " ]"), ('{"a":', "}"), ('{"a": ', " }"), ("[[],", "]"), ("[", ",[]]"),
                               ('[{"a":[', "]}]"), ('{"a":{"b":', '},"c":[]}'), ("[" * 31, "]" * 31)):
                for behind in ("", " ", "\n\t"):
                    whole = head + text + tail + behind
                    for asks in ([], [ask("")], [ask("", 1)], [ask("..[*]"), ask("..a")]):
                        given = run(*asks, feed(whole), end(), end())
                        self.assertEqual(given[-3][0], 0, whole)
                        self.assertEqual(given[-2:], [[0], [-2]], whole)

    def test_within_what_is_left_out(self):
        self.assertEqual(run(ask("", 1), feed("[1,[2]]"), end())[1:], [right(opened(1, ARRAY)), [0]])

    def test_byte_by_byte(self):
        for text, told in OTHERS:
            given = run(ask(""), *[feed(bytes([byte])) for byte in raw(text)], end())
            self.assertEqual([n for answer in given[1:-1] for n in answer[1:]], told)
            self.assertEqual(given[-1], [0])


class NumberAtTheEndTest(unittest.TestCase):
    def test_told_by_the_end(self):
        for text in NUMBERS:
            for before in ("",) + BLANKS:
                given = run(ask(""), feed(before + text), end())
                self.assertEqual(given[1:], [[0], right(number(1, text))], text)

    def test_shut_question(self):
        self.assertEqual(run(ask("", 1), feed("12"), end())[1:], [[0], right(number(1, "12"))])

    def test_not_told_if_no_question_chooses_it(self):
        for asks in ([], [ask(".a")], [ask("[0]")], [ask("..[*]"), ask("..*")], [ask(""), drop(0)]):
            self.assertEqual(run(*asks, feed("12"), end())[-2:], [[0], [0]])

    def test_several_questions(self):
        given = run(ask(""), ask(".a"), ask("", 1), ask(""), feed("-1.5"), end())
        self.assertEqual(given[-1], right(number(13, "-1.5")))
        given = run(*[ask("")] * 16, feed("7"), end())
        self.assertEqual(given[-1], right(number(65535, "7")))

    def test_in_pieces(self):
        given = run(ask(""), feed(" "), feed("-"), feed(""), feed("1"), feed(".5"), feed("e2"), feed(""), end())
        self.assertEqual(given[1:], [[0]] * 7 + [right(number(1, "-1.5e2"))])

    def test_not_told_again(self):
        given = run(ask(""), feed("12"), end(), end(), feed(""), feed(" "), feed("3"), end())
        self.assertEqual(given[2:], [right(number(1, "12")), [-2], [-2], [-2], [-2], [-2]])

    def test_not_told_behind_begin(self):
        given = run(ask(""), feed("12"), end(), begin(), ask(""), feed(" "), feed("3"), end())
        self.assertEqual(given[2:], [right(number(1, "12")), [0], [0, 0], [0], [0], right(number(1, "3"))])
        self.assertEqual(run(ask(""), feed("12"), begin(), end())[-1], [1])
        self.assertEqual(run(ask(""), feed("12"), begin(), ask(""), feed(" "), end())[-2:], [[0], [1]])

    def test_told_before_if_a_blank_is_behind_it(self):
        for text in NUMBERS:
            for behind in BLANKS:
                given = run(ask(""), feed(text + behind), end())
                self.assertEqual(given[1:], [right(number(1, text)), [0]])
                given = run(ask(""), feed(text), feed(behind), end())
                self.assertEqual(given[1:], [[0], right(number(1, text)), [0]])

    def test_keeps_its_questions_when_they_are_dropped(self):
        for drops in ([drop(0)], [drop(1)], [drop(0), drop(1)]):
            given = run(ask(""), ask(""), feed("12"), *drops, end())
            self.assertEqual(given[-1], right(number(3, "12")))
            given = run(ask(""), ask("", 1), feed("1"), *drops, feed("2"), end())
            self.assertEqual(given[-1], right(number(3, "12")))

    def test_gets_no_question_that_is_asked_since(self):
        self.assertEqual(run(feed("12"), ask(""), end())[-1], [0])
        self.assertEqual(run(feed("-"), ask(""), feed("1"), end())[-1], [0])
        self.assertEqual(run(ask(""), feed("12"), ask(""), ask("", 1), end())[-1], right(number(1, "12")))
        self.assertEqual(run(ask(".a"), ask(""), feed("1"), ask(""), feed("2"), end())[-1], right(number(2, "12")))

    def test_a_number_given_again_since(self):
        given = run(ask(""), feed("12"), drop(0), ask(".a"), end())
        self.assertEqual(given[-1], right(number(1, "12")))
        given = run(ask(".a"), feed("12"), drop(0), ask(""), end())
        self.assertEqual(given[-1], [0])

    def test_questions_changed_before_its_first_byte(self):
        self.assertEqual(run(feed(" "), ask(""), feed("12"), end())[-1], right(number(1, "12")))
        self.assertEqual(run(ask(""), feed(" "), drop(0), feed("12"), end())[-1], [0])


class NoTextTest(unittest.TestCase):
    def test_answered_1_alone(self):
        for text in UNFINISHED:
            self.assertIsNotNone(completed(raw(text)))
            for asks in ([], [ask("")], [ask("", 1)], [ask("..[*]"), ask("..*"), ask("[0]", 1)]):
                given = run(*asks, feed(text), end())
                self.assertEqual((given[-2][0], given[-1]), (0, [1]), text)

    def test_then_it_is_ended(self):
        for text in UNFINISHED:
            given = run(feed(text), end(), end(), feed(""), feed("0"), end(), begin(), feed("0"), end())
            self.assertEqual(given, [[0], [1], [-2], [-2], [-2], [-2], [0], [0], [0]], text)

    def test_without_any_feed(self):
        self.assertEqual(run(end(), end(), feed(""), feed("1")), [[1], [-2], [-2], [-2]])
        self.assertEqual(run(feed(""), feed(""), end(), end()), [[0], [0], [1], [-2]])
        self.assertEqual(run(ask(""), end(), begin(), end()), [[0, 0], [1], [0], [1]])

    def test_a_number_within_what_is_not_closed_is_not_told(self):
        given = run(ask("..[*]"), feed("[12"), end(), end())
        self.assertEqual(given[1:], [[0], [1], [-2]])
        given = run(ask(""), feed('{"a":12'), end())
        self.assertEqual(given[1:], [right(opened(1, OBJECT), name("a")), [1]])

    def test_a_number_that_cannot_end_there_is_not_told(self):
        for text in ("-", "1.", "1e", "1e+", "-0.", "12E-"):
            self.assertEqual(run(ask(""), feed(text), end())[1:], [[0], [1]])

    def test_every_beginning_of_some_texts(self):
        for text in (' [1, {"a" : [true, "x\\u0041\\ud83d\\ude00"], "b" : {}}, null] ', "-12.50e+07 ", ' "\u20ac\\n" ',
                     "false", '{"a":[{"b":[[]]}]}', "0.5"):
            text = raw(text)
            for size in range(len(text) + 1):
                given = run(feed(text[:size]), end())
                self.assertEqual(given, [[0], [0 if is_text(text[:size]) else 1]], text[:size])


class BehindWrongTest(unittest.TestCase):
    def test_refused(self):
        for text in ("x", "1x", "[1,]", "nulL", '"\x01', "[" * 33, "[1}", "1 2", "[] []", b'"\xff', "01", "1" * 65):
            given = run(ask(""), feed(text), end(), end(), feed(""), end())
            self.assertEqual(given[1][0], 1, text)
            self.assertEqual(given[2:], [[-2]] * 4, text)

    def test_a_number_before_the_wrong_byte_stays_untold(self):
        given = run(ask(""), feed("12"), feed("x"), end())
        self.assertEqual(given[1:], [[0], wrong(), [-2]])

    def test_begin_makes_a_new_text_possible(self):
        given = run(feed("x"), end(), begin(), ask(""), feed("12"), end())
        self.assertEqual(given, [[1], [-2], [0], [0, 0], [0], right(number(1, "12"))])


class BehindEndTest(unittest.TestCase):
    ENDED = [("12", 0, 0), ("[1] ", 0, 0), ("", 1, 0), (" ", 1, 0), ("[[1", 1, 2), ('{"a":"x', 1, 1), ("nul", 1, 0)]

    def test_feed_and_end(self):
        for text, answer, deep in self.ENDED:
            given = run(feed(text), end(), feed(""), feed(" "), feed("1"), feed("x"), feed("]"), feed(" " * 16000),
                        end())
            self.assertEqual(given, [[0], [answer]] + [[-2]] * 7, text)

    def test_too_many_bytes_come_first(self):
        for text, answer, deep in self.ENDED:
            rest = 65536 - 64000 - len(text)
            given = run(*blanks(64000), feed(text), end(), feed(" " * (rest + 1)), feed(" " * rest), feed(""), end())
            self.assertEqual(given[4:], [[0], [answer], [-3], [-2], [-2], [-2]], text)

    def test_at_65536(self):
        for last, answer in (("1", [0, 5, 1, 1, 49]), ("[", [1])):
            given = run(ask(""), *blanks(65535), feed(last), end(), feed(" "), feed(""), end(), place())
            self.assertEqual(given[7:], [answer, [-3], [-2], [-2], [0, 65536]])

    def test_the_others_answer_as_ever(self):
        for text, answer, deep in self.ENDED:
            looks = [place(), depth(), asked(), check(".a[*]"), check("a"), ask("..b"), ask("a"), ask("", 2), asked(),
                     drop(0), drop(0), drop(9), asked(), ask(".c", 1), asked(), place(), depth()]
            given = run(ask(".x"), feed(text), *looks)
            behind = run(ask(".x"), feed(text), end(), *looks)
            self.assertEqual(behind[2], [answer])
            self.assertEqual(behind[3:], given[2:], text)
            self.assertEqual(behind[3:], [[0, len(text)], [0, deep], [0, 0], [0, 2], [-1], [0, 1], [-1], [-1],
                                          [0, 0, 1], [0], [-1], [-1], [0, 1], [0, 0], [0, 0, 1], [0, len(text)],
                                          [0, deep]])

    def test_all_sixteen_behind_it(self):
        given = run(end(), *[ask("")] * 17, asked(), drop(7), ask(".a"), asked())
        self.assertEqual(given[1:18], [[0, count] for count in range(16)] + [[-2]])
        self.assertEqual(given[18:], [[0] + list(range(16)), [0], [0, 7], [0] + list(range(16))])

    def test_begin_makes_a_new_text_possible(self):
        for text, answer, deep in self.ENDED:
            given = run(ask(""), feed(text), end(), begin(), place(), depth(), asked(), ask("[0]"), feed('["v"'),
                        feed("]"), end(), begin(), feed("[2"), end(), end())
            self.assertEqual(given[3:], [[0], [0, 0], [0, 0], [0], [0, 0], right(string(1, "v")), [0], [0], [0], [0],
                                         [1], [-2]], text)


if __name__ == "__main__":
    unittest.main()

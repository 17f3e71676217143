"""T4: questions asked and dropped between the pieces, and begin within a text."""

import unittest

from tests.helper import (ARRAY, OBJECT, ask, begin, closed, drop, feed, name, number, opened, right, run, string, word,
                          wrong)


class AskedBetweenTest(unittest.TestCase):
    def test_holds_from_the_next_value_on(self):
        given = run(feed('["a",'), ask("[*]"), feed('"b"]'))
        self.assertEqual(given[-1], right(string(1, "b")))

    def test_root_that_has_begun_is_not_chosen(self):
        self.assertEqual(run(feed("["), ask(""), feed('"x"]'))[-1], right())
        self.assertEqual(run(feed(" "), ask(""), feed('["x"]'))[-1],
                         right(opened(1, ARRAY), string(0, "x"), closed(ARRAY)))
        self.assertEqual(run(feed("[]"), ask(""), feed(" "))[-1], right())

    def test_within_strings_numbers_and_words(self):
        for text in ('"abc"', "123", "null", "-1.5e7", '"\\u0041"', '"\u20ac"'):
            raw_text = text.encode("utf-8")
            for at in range(1, len(raw_text)):
                given = run(feed(raw_text[:at]), ask(""), ask("..[0]"), feed(raw_text[at:] + b" "))
                self.assertEqual(given[-1], right(), text)
                given = run(feed(b"[" + raw_text[:at]), ask("[*]"), feed(raw_text[at:] + b",0]"))
                self.assertEqual(given[-1], right(number(1, "0")), text)

    def test_number_that_is_whole_but_not_told_yet(self):
        self.assertEqual(run(feed("[1"), ask("[0]"), feed("]"))[-1], right())
        self.assertEqual(run(ask("[0]"), feed("[1"), drop(0), feed("]"))[-1], right(number(1, "1")))

    def test_way_through_what_was_open_before(self):
        given = run(feed('{"x":0,"a":[9,{"b":'), ask(".a[1].b"), ask("..b"), ask(".a[*]"), ask(".x[1].b"),
                    ask(".a[0].b"), feed('"v"},"w"]}'))
        self.assertEqual(given[-1], right(string(3, "v"), string(4, "w")))

    def test_two_dots_through_what_was_open_before(self):
        given = run(feed('[[{"a":[['), ask("..a..[0]"), ask("[0]..a[0]..[*]"), ask("..[0]..[0]..[0]..[0]"),
                    feed('"v","w"]'))
        self.assertEqual(given[-1], right(string(7, "v"), string(2, "w")))

    def test_within_a_name_and_behind_it(self):
        for cut in range(1, 9):
            text = '{"ab" : "v"}'
            given = run(feed(text[:cut]), ask(".ab"), feed(text[cut:]))
            self.assertEqual(given[-1], right(string(1, "v")), cut)

    def test_element_numbers_go_on(self):
        given = run(feed("[1,[],{}"), ask("[3]"), ask("[0]"), ask("[2]"), feed(',"v","w"]'))
        self.assertEqual(given[-1], right(string(1, "v")))

    def test_names_of_what_is_not_told_stay_untold(self):
        given = run(feed('{"a":'), ask(".*"), feed('1,"b":2}'))
        self.assertEqual(given[-1], right(number(1, "1"), number(1, "2")))

    def test_behind_a_closed_one(self):
        given = run(feed('{"a":{"b":[1]'), ask(".a.c"), feed(',"c":"v"},"c":"w"}'))
        self.assertEqual(given[-1], right(string(1, "v")))

    def test_a_first_question_keeps_its_way_when_a_second_comes(self):
        given = run(ask("[1].a[0]"), feed('[0,{"a":'), ask("..a"), feed('["v"]}]'))
        self.assertEqual(given[-1], right(opened(2, ARRAY), string(1, "v"), closed(ARRAY)))

    def test_within_what_was_left_out_nothing_is_told(self):
        given = run(ask("[0]", 1), feed("[["), ask("..[*]"), feed('"v",{"a":1}],"w"]'))
        self.assertEqual(given[-1], right(string(2, "w")))

    def test_behind_a_wrong_text(self):
        self.assertEqual(run(feed("x"), ask(""), drop(0), drop(0), ask(".a")), [[1], [0, 0], [0], [-1], [0, 0]])


class DroppedBetweenTest(unittest.TestCase):
    def test_a_value_that_has_begun_keeps_its_questions(self):
        for text, told in (('"abc"', string(3, "abc")), ("123 ", number(3, "123")), ("true", word(3, 2))):
            for at in range(1, len(text)):
                given = run(ask(""), ask(""), feed(text[:at]), drop(0), feed(text[at:]))
                self.assertEqual(given[-1], right(told))
                given = run(ask(""), ask(""), feed(text[:at]), drop(0), drop(1), feed(text[at:]))
                self.assertEqual(given[-1], right(told))

    def test_before_the_value_begins(self):
        given = run(ask(".a"), feed('{"a":'), drop(0), feed('"v"}'))
        self.assertEqual(given[-1], right())

    def test_what_lies_in_a_told_one_is_told_on(self):
        given = run(ask(".a"), feed('{"a":[1,'), drop(0), feed('{"b":2}],"a":3}'))
        self.assertEqual(given[-1], right(opened(0, OBJECT), name("b"), number(0, "2"), closed(OBJECT), closed(ARRAY)))

    def test_what_is_left_out_stays_so(self):
        given = run(ask("", 1), ask("[0][0]"), feed("[["), drop(0), feed('"x"],"y"] '))
        self.assertEqual(given[-1], right())

    def test_a_shut_one_dropped_leaves_the_others_telling(self):
        given = run(ask("[*]", 1), ask("[*]"), feed("[[1],"), drop(1), feed("[2],"), drop(0), feed("[3]]"))
        self.assertEqual(given[2:], [right(opened(3, ARRAY), number(0, "1"), closed(ARRAY)), [0],
                                     right(opened(1, ARRAY)), [0], right()])

    def test_one_number_for_two_questions(self):
        given = run(ask("[0]"), feed('["a'), drop(0), ask("[1]"), feed('","b"]'))
        self.assertEqual(given[-1], right(string(1, "a"), string(1, "b")))

    def test_same_number_asked_again_other_way_within_levels(self):
        given = run(ask("..a"), feed('{"a":{"b":'), drop(0), ask(".a.b[*]"), feed('["v"],"a":"w"}}'))
        self.assertEqual(given[-1], right(opened(0, ARRAY), string(1, "v"), closed(ARRAY), name("a"), string(0, "w"),
                                          closed(OBJECT)))

    def test_number_of_an_other_shut_when_the_array_began(self):
        given = run(ask("[0]", 1), feed("["), drop(0), ask("[0]"), feed('["v"]]'))
        self.assertEqual(given[-1], right(opened(1, ARRAY), string(0, "v"), closed(ARRAY)))


class BeginTest(unittest.TestCase):
    def test_in_the_middle_of_a_text(self):
        for text in ("[", "[[[", '{"a', '{"a":', '"x', '"\\u00', '"\\ud83d', b'"\xe2\x82', "12", "nul", "[1,", "", " ",
                     "[]"):
            given = run(ask(""), feed(text), begin(), ask("[0]"), feed('["v"]'), begin(), feed("null "))
            self.assertEqual(given[2:], [[0], [0, 0], right(string(1, "v")), [0], right()])

    def test_behind_a_wrong_text(self):
        given = run(ask(""), feed("[1}"), feed("]"), begin(), ask(""), feed("[1]"))
        self.assertEqual(given[1:], [wrong(opened(1, ARRAY)), [-2], [0], [0, 0],
                                     right(opened(1, ARRAY), number(0, "1"), closed(ARRAY))])

    def test_a_number_waiting_is_not_told_any_more(self):
        self.assertEqual(run(ask(""), feed("12"), begin(), feed(" "))[-1], right())

    def test_depth_begins_anew(self):
        self.assertEqual(run(feed("[" * 32), begin(), feed("[" * 32), feed("[")), [[0], [0], [0], [1]])


if __name__ == "__main__":
    unittest.main()

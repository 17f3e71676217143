"""feed of wrong texts: the first wrong byte, and what is told before it."""

import unittest

from tests.helper import (ARRAY, OBJECT, ask, closed, fed, feed, name, number, opened, raw, right, run, string, word,
                          wrong)

EVERY_BYTE = [bytes([byte]) for byte in range(256)]
BLANKS = b" \t\n\r"
DIGITS = b"0123456789"
SIXTEEN = b"0123456789abcdefABCDEF"


class WrongTest(unittest.TestCase):
    def goes_on_with(self, beginning, allowed):
        """Behind the beginning just the allowed bytes are right, whole or in pieces, told or left out or neither."""
        beginning = raw(beginning)
        for byte in EVERY_BYTE:
            expected = 0 if byte in raw(allowed) else 1
            for asks in ([], [ask("")], [ask("", 1)]):
                whole = run(*asks, feed(beginning + byte))[-1]
                self.assertEqual(whole[0], expected, (beginning, byte))
                parts = run(*asks, feed(beginning), feed(byte))[-2:]
                self.assertEqual((parts[0][0], parts[1][0]), (0, expected), (beginning, byte))
                if expected == 1:
                    self.assertEqual(parts[1], [1], (beginning, byte))
                    self.assertEqual(whole[1:], parts[0][1:], (beginning, byte))


class SignsTest(WrongTest):
    VALUE = b'"[{-0123456789nft'

    def test_at_the_beginning(self):
        self.goes_on_with("", BLANKS + self.VALUE)
        self.goes_on_with(" \n", BLANKS + self.VALUE)

    def test_in_an_array(self):
        self.goes_on_with("[", BLANKS + self.VALUE + b"]")
        self.goes_on_with("[ ", BLANKS + self.VALUE + b"]")
        self.goes_on_with("[null", BLANKS + b",]")
        self.goes_on_with("[null ", BLANKS + b",]")
        self.goes_on_with("[null,", BLANKS + self.VALUE)
        self.goes_on_with("[null, ", BLANKS + self.VALUE)
        self.goes_on_with('["a"', BLANKS + b",]")
        self.goes_on_with("[[]", BLANKS + b",]")
        self.goes_on_with("[{}", BLANKS + b",]")

    def test_in_an_object(self):
        self.goes_on_with("{", BLANKS + b'"}')
        self.goes_on_with("{ ", BLANKS + b'"}')
        self.goes_on_with('{"a"', BLANKS + b":")
        self.goes_on_with('{"a" ', BLANKS + b":")
        self.goes_on_with('{"a":', BLANKS + self.VALUE)
        self.goes_on_with('{"a": ', BLANKS + self.VALUE)
        self.goes_on_with('{"a":true', BLANKS + b",}")
        self.goes_on_with('{"a":true ', BLANKS + b",}")
        self.goes_on_with('{"a":true,', BLANKS + b'"')
        self.goes_on_with('{"a":true, ', BLANKS + b'"')
        self.goes_on_with('{"a":true,"b"', BLANKS + b":")
        self.goes_on_with('{"a":[]', BLANKS + b",}")

    def test_arrays_and_objects_in_one_another(self):
        self.goes_on_with('[{"a":[0]', BLANKS + b",}")
        self.goes_on_with('[{"a":[0]}', BLANKS + b",]")
        self.goes_on_with('{"a":[{}', BLANKS + b",]")
        self.goes_on_with('{"a":[{}]', BLANKS + b",}")

    def test_something_behind_the_value(self):
        for text in ("null", "false", "true", '"x"', "[]", "{}", "[1]", '{"a":1}', "0 ", "12 ", "null ", "[] \n"):
            self.goes_on_with(text, BLANKS)

    def test_words(self):
        for text in ("null", "false", "true"):
            for size in range(1, len(text)):
                self.goes_on_with(text[:size], text[size])
                self.goes_on_with("[" + text[:size], text[size])


class NumbersTest(WrongTest):
    def test_each_place(self):
        self.goes_on_with("-", DIGITS)
        self.goes_on_with("0", b".eE" + BLANKS)
        self.goes_on_with("-0", b".eE" + BLANKS)
        self.goes_on_with("1", DIGITS + b".eE" + BLANKS)
        self.goes_on_with("-10", DIGITS + b".eE" + BLANKS)
        self.goes_on_with("0.", DIGITS)
        self.goes_on_with("12.", DIGITS)
        self.goes_on_with("0.0", DIGITS + b"eE" + BLANKS)
        self.goes_on_with("12.34", DIGITS + b"eE" + BLANKS)
        for e in "eE":
            self.goes_on_with("0" + e, DIGITS + b"+-")
            self.goes_on_with("1" + e, DIGITS + b"+-")
            self.goes_on_with("1.5" + e, DIGITS + b"+-")
            self.goes_on_with("1" + e + "+", DIGITS)
            self.goes_on_with("1" + e + "-", DIGITS)
            self.goes_on_with("1" + e + "0", DIGITS + BLANKS)
            self.goes_on_with("1.5" + e + "-09", DIGITS + BLANKS)

    def test_within_arrays_and_objects(self):
        self.goes_on_with("[0", b".eE,]" + BLANKS)
        self.goes_on_with("[1", DIGITS + b".eE,]" + BLANKS)
        self.goes_on_with('{"a":0', b".eE,}" + BLANKS)
        self.goes_on_with('{"a":1.5', DIGITS + b"eE,}" + BLANKS)
        self.goes_on_with("[-", DIGITS)
        self.goes_on_with("[1e", DIGITS + b"+-")

    def test_64_bytes_at_most(self):
        self.goes_on_with("1" * 64, BLANKS)
        self.goes_on_with("-" + "1" * 63, BLANKS)
        self.goes_on_with("0." + "1" * 62, BLANKS)
        self.goes_on_with("1e" + "1" * 62, BLANKS)
        self.goes_on_with("[" + "1" * 64, BLANKS + b",]")

    def test_no_room_left_to_bring_it_to_an_end(self):
        self.goes_on_with("1" * 61, DIGITS + b".eE" + BLANKS)
        self.goes_on_with("1" * 62, DIGITS + b".eE" + BLANKS)
        self.goes_on_with("1" * 63, DIGITS + BLANKS)
        self.goes_on_with("1" * 62 + ".", DIGITS)
        self.goes_on_with("1" * 62 + ".0", BLANKS)
        self.goes_on_with("0." + "1" * 60, DIGITS + b"eE" + BLANKS)
        self.goes_on_with("0." + "1" * 61, DIGITS + BLANKS)
        self.goes_on_with("1" * 61 + "e", DIGITS + b"+-")
        self.goes_on_with("1" * 62 + "e", DIGITS)
        self.goes_on_with("1" * 61 + "e+", DIGITS)
        self.goes_on_with("1" * 61 + "e+0", BLANKS)
        self.goes_on_with('{"a":' + "1" * 62 + "E", DIGITS)

    def test_a_number_is_counted_by_itself(self):
        self.assertEqual(fed("[" + ",".join(["1" * 64] * 3) + "] "), [0])


class DepthTest(WrongTest):
    def test_32_and_33(self):
        for text in ("[" * 32, '{"a":' * 31 + "[", '[{"a":' * 15 + "[["):
            self.goes_on_with(text, BLANKS + b'"-0123456789nft]')
        self.goes_on_with('{"a":' * 32, BLANKS + b'"-0123456789nft')
        self.goes_on_with("[" * 31, BLANKS + b'"-0123456789nft]{[')
        self.goes_on_with("[" * 32 + "]", BLANKS + b",]")
        self.goes_on_with("[" * 32 + "],", BLANKS + b'"-0123456789nft{[')


class StringsTest(WrongTest):
    PLAIN = bytes(range(32, 128)) + bytes(range(0xc2, 0xf5))
    MORE = bytes(range(0x80, 0xc0))

    def both(self, beginning, allowed):
        """In a string that is a value, and in a name."""
        self.goes_on_with(b'"' + beginning, allowed)
        self.goes_on_with(b'{"' + beginning, allowed)

    def test_plain(self):
        for beginning in (b"", b"a", b"\\n", b"\\u0041", b"\\ud800\\udc00", b"\xc2\x80", b"\xe2\x82\xac",
                          b"\xf0\x9f\x98\x80"):
            self.both(beginning, self.PLAIN)

    def test_second_bytes(self):
        for lead in range(0xc2, 0xf5):
            allowed = {0xe0: bytes(range(0xa0, 0xc0)), 0xed: bytes(range(0x80, 0xa0)), 0xf0: bytes(range(0x90, 0xc0)),
                       0xf4: bytes(range(0x80, 0x90))}.get(lead, self.MORE)
            self.goes_on_with(b'"' + bytes([lead]), allowed)

    def test_third_and_fourth_bytes(self):
        for beginning in (b"\xe0\xa0", b"\xe1\x80", b"\xed\x9f", b"\xef\xbf", b"\xf0\x90", b"\xf1\x80", b"\xf4\x8f",
                          b"\xf0\x90\x80", b"\xf3\xbf\xbf", b"\xf4\x8f\xbf"):
            self.both(beginning, self.MORE)

    def test_what_is_not_utf8(self):
        for beginning, byte in ((b"", b"\xc0"), (b"", b"\xc1"), (b"\xe0", b"\x9f"), (b"\xf0", b"\x8f"),
                                (b"\xed", b"\xa0"), (b"\xed", b"\xbf"), (b"\xf4", b"\x90"), (b"", b"\xf5"),
                                (b"", b"\xff"), (b"", b"\x80"), (b"\xc3", b'"'), (b"\xe2\x82", b'"')):
            self.assertEqual(run(feed(b'"' + beginning), feed(byte)), [[0], [1]])

    def test_escapes(self):
        self.both(b"\\", b'"\\/bfnrtu')

    def test_digits_of_an_escape(self):
        self.both(b"\\u", SIXTEEN)
        self.both(b"\\u0", SIXTEEN)
        self.both(b"\\u00", SIXTEEN)
        self.both(b"\\u000", SIXTEEN)
        self.both(b"\\uc", SIXTEEN)
        self.both(b"\\ue", SIXTEEN)
        self.both(b"\\ud7f", SIXTEEN)
        self.both(b"\\u0d", SIXTEEN)
        self.both(b"\\u00d", SIXTEEN)
        self.both(b"\\u0dc", SIXTEEN)

    def test_second_half_without_a_first(self):
        for d in (b"d", b"D"):
            self.both(b"\\u" + d, b"0123456789abAB")
            self.both(b"x\\ud800\\udc00\\u" + d, b"0123456789abAB")

    def test_first_half_without_a_second(self):
        for first in (b"\\ud8", b"\\uDB"):
            self.both(first, SIXTEEN)
            self.both(first + b"f", SIXTEEN)
            self.both(first + b"ff", b"\\")
            self.both(first + b"ff\\", b"u")
            self.both(first + b"ff\\u", b"dD")
            self.both(first + b"ff\\ud", b"cdefCDEF")
            self.both(first + b"ff\\uD", b"cdefCDEF")
            self.both(first + b"ff\\uDc", SIXTEEN)
            self.both(first + b"ff\\udF0", SIXTEEN)
            self.both(first + b"ff\\udF0a", self.PLAIN)

    def test_where_the_pair_is_known(self):
        self.both(b"\\ud8", SIXTEEN)
        self.both(b"\\ud7ff", self.PLAIN)
        self.both(b"\\ue000", self.PLAIN)


class ToldBeforeTest(unittest.TestCase):
    def test_what_stands_before_the_wrong_byte_is_told(self):
        self.assertEqual(fed('{"a":[1,"x"],"b":nul1', ""),
                         wrong(opened(1, OBJECT), name("a"), opened(0, ARRAY), number(0, "1"), string(0, "x"),
                               closed(ARRAY), name("b")))

    def test_nothing_behind_it_is_told(self):
        self.assertEqual(fed('["x",,"y"]', "[*]"), wrong(string(1, "x")))
        self.assertEqual(fed('["x"]"y"', ""), wrong(opened(1, ARRAY), string(0, "x"), closed(ARRAY)))

    def test_a_wrong_byte_does_not_tell_the_number_before_it(self):
        self.assertEqual(fed("[1}", "[0]"), wrong())
        self.assertEqual(fed('{"a":1]', ".a"), wrong())
        self.assertEqual(fed("[1x", ""), wrong(opened(1, ARRAY)))
        self.assertEqual(fed("1]", ""), wrong())
        self.assertEqual(fed("1,", ""), wrong())
        self.assertEqual(fed("01 ", ""), wrong())
        self.assertEqual(fed("1" * 65 + " ", ""), wrong())
        self.assertEqual(fed("[1 }", "[0]"), wrong(number(1, "1")))

    def test_a_wrong_byte_opens_and_closes_nothing(self):
        self.assertEqual(fed("[" * 33, ""), wrong(opened(1, ARRAY), *[opened(0, ARRAY)] * 31))
        self.assertEqual(fed("[null}", ""), wrong(opened(1, ARRAY), word(0, 0)))
        self.assertEqual(fed("[null,]", ""), wrong(opened(1, ARRAY), word(0, 0)))

    def test_left_out_is_checked_as_strictly(self):
        for text in ('[01]', '["\x01"]', '[nul]', '[,]', '[{"a"}]', '[1}', '["\\x"]', '["\\udc00"]', "[" * 33, "[1.]",
                     "[" + "1" * 65 + "]", '{"a":1,}', '{a:1}', '{"a",1}'):
            kind = ARRAY if text[0] == "[" else OBJECT
            self.assertEqual(fed(text, [""]), wrong(opened(1, kind)), text)
            self.assertEqual(fed('{"b":' + text, [".b"]), wrong(opened(1, kind)), text)
            self.assertEqual(fed(text), wrong(), text)
        self.assertEqual(fed(b'["\xc0\x80"]', [""]), wrong(opened(1, ARRAY)))

    def test_wrong_behind_what_was_left_out(self):
        self.assertEqual(fed('[["x"],"y"}', ["[0]"], "[1]"), wrong(opened(1, ARRAY), string(2, "y")))

    def test_found_by_the_piece_in_which_it_stands(self):
        self.assertEqual(run(ask("[*]"), feed('["x"'), feed(',"y'), feed('",]')),
                         [[0, 0], right(string(1, "x")), right(), wrong(string(1, "y"))])


if __name__ == "__main__":
    unittest.main()

"""feed of right texts: what is told, and when."""

import unittest

from tests.helper import ARRAY, OBJECT, ask, closed, fed, feed, name, number, opened, right, run, string, word


def each_byte(text, *paths):
    """What each byte of the text tells, fed alone: {place: numbers}."""
    given = run(*[ask(path) for path in paths], *[feed(bytes([byte])) for byte in text.encode("utf-8")])
    told = given[len(paths):]
    return {place: answer[1:] for place, answer in enumerate(told) if len(answer) > 1}


class ValuesTest(unittest.TestCase):
    def test_nothing_asked_nothing_told(self):
        self.assertEqual(fed('{"a":[1,"x",null,{}]} '), [0])

    def test_words_alone(self):
        for code, text in enumerate(("null", "false", "true")):
            self.assertEqual(fed(text, ""), right(word(1, code)))

    def test_strings_alone(self):
        for text in ("", "x", "a b", "/", "\x7f"):
            self.assertEqual(fed('"' + text + '"', ""), right(string(1, text)))

    def test_numbers_alone(self):
        for text in ("0", "-0", "7", "10", "-12", "0.0", "0.50", "-0.1", "12.340", "0e0", "1e5", "1E5", "1e+5", "1E-05",
                     "0.1e-007", "1234567890", "-0.0E+0", "1" * 64, "-" + "9" * 63, "0." + "0" * 62):
            self.assertEqual(fed(text + " ", ""), right(number(1, text)))

    def test_number_without_a_byte_behind_it_is_not_told(self):
        for text in ("0", "-1", "12", "1.5", "1e5", "1" * 64):
            self.assertEqual(fed(text, ""), [0])

    def test_arrays_and_objects_alone(self):
        self.assertEqual(fed("[]", ""), right(opened(1, ARRAY), closed(ARRAY)))
        self.assertEqual(fed("{}", ""), right(opened(1, OBJECT), closed(OBJECT)))

    def test_every_kind_within_an_array(self):
        self.assertEqual(
            fed('[null,false,true,0,-1.5e3,"x",[],{},[[]]]', ""),
            right(opened(1, ARRAY), word(0, 0), word(0, 1), word(0, 2), number(0, "0"), number(0, "-1.5e3"),
                  string(0, "x"), opened(0, ARRAY), closed(ARRAY), opened(0, OBJECT), closed(OBJECT), opened(0, ARRAY),
                  opened(0, ARRAY), closed(ARRAY), closed(ARRAY), closed(ARRAY)))

    def test_every_kind_within_an_object(self):
        self.assertEqual(
            fed('{"a":null,"b":false,"c":true,"d":12,"e":"x","f":[1],"":{"g":2}}', ""),
            right(opened(1, OBJECT), name("a"), word(0, 0), name("b"), word(0, 1), name("c"), word(0, 2), name("d"),
                  number(0, "12"), name("e"), string(0, "x"), name("f"), opened(0, ARRAY), number(0, "1"),
                  closed(ARRAY), name(""), opened(0, OBJECT), name("g"), number(0, "2"), closed(OBJECT),
                  closed(OBJECT)))

    def test_blanks_everywhere(self):
        blanks = " \t\n\r"
        parts = ["", "{", '"a"', ":", "[", "1", ",", "null", ",", "[", "]", ",", "{", "}", "]", ",", '"b"', ":", '"x"',
                 "}", ""]
        told = right(opened(1, OBJECT), name("a"), opened(0, ARRAY), number(0, "1"), word(0, 0), opened(0, ARRAY),
                     closed(ARRAY), opened(0, OBJECT), closed(OBJECT), closed(ARRAY), name("b"), string(0, "x"),
                     closed(OBJECT))
        self.assertEqual(fed("".join(parts), ""), told)
        for gap in list(blanks) + [blanks, blanks * 3]:
            self.assertEqual(fed(gap.join(parts), ""), told)

    def test_blanks_alone_are_no_text_yet_but_right(self):
        self.assertEqual(fed(" \t\n\r" * 10, ""), [0])

    def test_names_that_come_twice(self):
        self.assertEqual(fed('{"a":1,"a":2,"a":1}', ".a"), right(number(1, "1"), number(1, "2"), number(1, "1")))
        self.assertEqual(fed('{"a":1,"a":2}', ""),
                         right(opened(1, OBJECT), name("a"), number(0, "1"), name("a"), number(0, "2"), closed(OBJECT)))

    def test_depth_of_32(self):
        self.assertEqual(fed("[" * 32 + "]" * 32, ".a"), [0])
        self.assertEqual(fed('{"a":' * 31 + "{}" + "}" * 31, "[0]"), [0])
        self.assertEqual(fed("[" * 32 + '"x",1,null' + "]" * 32, "[*]"),
                         right(opened(1, ARRAY), *[opened(0, ARRAY)] * 30, string(0, "x"), number(0, "1"), word(0, 0),
                               *[closed(ARRAY)] * 31))
        self.assertEqual(fed("[" + ",".join(["[" * 31 + "]" * 31] * 3) + "]"), [0])


class JustThenTest(unittest.TestCase):
    """Each thing is told by its own byte, no other."""

    def test_array(self):
        self.assertEqual(each_byte(" [ ] ", ""), {1: opened(1, ARRAY), 3: closed(ARRAY)})

    def test_object_and_names(self):
        self.assertEqual(each_byte('{ "ab" : {} }', ""),
                         {0: opened(1, OBJECT), 5: name("ab"), 9: opened(0, OBJECT), 10: closed(OBJECT),
                          12: closed(OBJECT)})

    def test_string(self):
        self.assertEqual(each_byte('"ab" ', ""), {3: string(1, "ab")})

    def test_words(self):
        self.assertEqual(each_byte("null ", ""), {3: word(1, 0)})
        self.assertEqual(each_byte("false ", ""), {4: word(1, 1)})
        self.assertEqual(each_byte("true ", ""), {3: word(1, 2)})

    def test_number_by_each_byte_behind_it(self):
        for blank in " \t\n\r":
            self.assertEqual(each_byte("12" + blank + " ", ""), {2: number(1, "12")})
        self.assertEqual(each_byte("[12,3]", "[*]"), {3: number(1, "12"), 5: number(1, "3")})
        self.assertEqual(each_byte("[1 ,2 ]", "[*]"), {2: number(1, "1"), 5: number(1, "2")})
        self.assertEqual(each_byte("[12]", ""), {0: opened(1, ARRAY), 3: number(0, "12") + closed(ARRAY)})
        self.assertEqual(each_byte('{"a":0}', ""),
                         {0: opened(1, OBJECT), 3: name("a"), 6: number(0, "0") + closed(OBJECT)})

    def test_a_number_of_64_bytes_waits_for_the_byte_behind_it_too(self):
        given = run(ask(""), feed("1" * 64), feed(" "))
        self.assertEqual(given[1:], [[0], right(number(1, "1" * 64))])


class CharactersTest(unittest.TestCase):
    def is_string(self, written, characters):
        told = right(string(1, characters))
        self.assertEqual(fed(b'"' + written + b'"', ""), told)

    def test_escapes_of_one_letter(self):
        for letter, byte in zip(b'"\\/bfnrt', (34, 92, 47, 8, 12, 10, 13, 9)):
            self.is_string(b"\\" + bytes([letter]), bytes([byte]))
        self.is_string(b'x\\"\\\\\\/\\b\\f\\n\\r\\ty', b'x"\\/\x08\x0c\n\r\ty')

    def test_escapes_of_four_digits(self):
        for code in (0, 1, 0x1f, 0x22, 0x41, 0x5c, 0x7f, 0x80, 0xab, 0x7ff, 0x800, 0xabc, 0xfff, 0x1000, 0xcdef, 0xd7ff,
                     0xe000, 0xfeff, 0xfffe, 0xffff):
            written = ("%04x" % code).encode("ascii")
            for digits in (written, written.upper()):
                self.is_string(b"\\u" + digits, chr(code))

    def test_digits_of_both_cases_in_one(self):
        self.is_string(b"\\uaBcD\\uAbCd", "\uabcd\uabcd")

    def test_every_digit_of_sixteen(self):
        for digit in "0123456789abcdefABCDEF":
            self.is_string(("\\u0" + digit + "4" + digit).encode("ascii"), chr(int("0" + digit + "4" + digit, 16)))

    def test_pairs(self):
        for code in (0x10000, 0x10001, 0x103ff, 0x10400, 0x1f600, 0xfffff, 0x100000, 0x10fc00, 0x10ffff):
            over = code - 0x10000
            written = "\\u%04x\\u%04X" % (0xd800 + over // 1024, 0xdc00 + over % 1024)
            self.is_string(written.encode("ascii"), chr(code))
            self.is_string(written.upper().replace("U", "u").encode("ascii"), chr(code))

    def test_pairs_and_others_in_a_row(self):
        self.is_string(b"\\ud83d\\ude00\\ud83d\\ude01\\u0041\\ud800\\udc00\\n", "\U0001f600\U0001f601A\U00010000\n")

    def test_utf8_of_one_to_four_bytes(self):
        for code in (0x20, 0x21, 0x23, 0x5b, 0x5d, 0x7e, 0x7f, 0x80, 0xbf, 0xc0, 0x7ff, 0x800, 0xfff, 0x1000, 0xcfff,
                     0xd000, 0xd7ff, 0xe000, 0xffff, 0x10000, 0x3ffff, 0x40000, 0xfffff, 0x100000, 0x10ffff):
            self.is_string(chr(code).encode("utf-8"), chr(code))

    def test_a_count_of_bytes_not_characters(self):
        self.assertEqual(fed('"\u00e4\u20ac\U0001f600"', ""),
                         right([4, 1, 9, 0xc3, 0xa4, 0xe2, 0x82, 0xac, 0xf0, 0x9f, 0x98, 0x80]))

    def test_characters_of_names(self):
        self.assertEqual(fed('{"\\u00e4\\n\u20ac":0}', ""),
                         right(opened(1, OBJECT), name("\u00e4\n\u20ac"), number(0, "0"), closed(OBJECT)))


class WhichTest(unittest.TestCase):
    def test_a_sum_for_several_questions(self):
        self.assertEqual(fed('{"a":"x","b":"y"}', ".a", ".*", ".b", "..a"),
                         right(string(11, "x"), string(6, "y")))

    def test_told_because_it_lies_in_what_is_told(self):
        self.assertEqual(
            fed('[1,{"a":[null]},2]', "[1]", "[1].a[0]"),
            right(opened(1, OBJECT), name("a"), opened(0, ARRAY), word(2, 0), closed(ARRAY), closed(OBJECT)))

    def test_what_lies_beside_is_not_told(self):
        self.assertEqual(fed('{"a":{"b":1,"c":"x"},"b":2,"c":["y"]}', ".a.c"), right(string(1, "x")))

    def test_names_are_told_only_of_objects_that_are_told(self):
        self.assertEqual(fed('{"a":{"b":{"c":null}}}', ".a.b"),
                         right(opened(1, OBJECT), name("c"), word(0, 0), closed(OBJECT)))

    def test_root(self):
        self.assertEqual(fed('["x"]', "", "[0]"), right(opened(1, ARRAY), string(2, "x"), closed(ARRAY)))

    def test_question_15(self):
        paths = [".none"] * 15 + ["[0]"]
        self.assertEqual(fed('["x","y"]', *paths), right(string(32768, "x")))


class PathsTest(unittest.TestCase):
    def strings(self, text, path):
        """The characters of the strings that the path chooses."""
        answer = fed(text, path)
        found = []
        at = 1
        while at < len(answer):
            self.assertEqual(answer[at:at + 2], [4, 1])
            size = answer[at + 2]
            found.append(bytes(answer[at + 3:at + 3 + size]).decode("utf-8"))
            at += 3 + size
        return found

    def test_names(self):
        text = '{"a":"1","b":"2","ab":"3","A":"4","":"5"}'
        for path, found in ((".a", ["1"]), (".b", ["2"]), (".ab", ["3"]), (".A", ["4"]), (".c", []),
                            (".*", ["1", "2", "3", "4", "5"])):
            self.assertEqual(self.strings(text, path), found)

    def test_numbers(self):
        text = '["0","1","2","3","4","5","6","7","8","9","10","11"]'
        for path, found in (("[0]", ["0"]), ("[1]", ["1"]), ("[9]", ["9"]), ("[10]", ["10"]), ("[11]", ["11"]),
                            ("[12]", []), ("[999999]", [])):
            self.assertEqual(self.strings(text, path), found)
        self.assertEqual(len(self.strings(text, "[*]")), 12)

    def test_counting_goes_on_behind_other_values(self):
        text = '[[],{},null,1,[["x"],"y"],"z"]'
        self.assertEqual(self.strings(text, "[5]"), ["z"])
        self.assertEqual(self.strings(text, "[4][1]"), ["y"])
        self.assertEqual(self.strings(text, "[4][0][0]"), ["x"])

    def test_members_are_no_elements(self):
        text = '[{"0":"m","*":"s"},["e"]]'
        self.assertEqual(self.strings(text, "[*].0"), ["m"])
        self.assertEqual(self.strings(text, "[*][0]"), ["e"])
        self.assertEqual(self.strings(text, "[*].*"), ["m", "s"])
        self.assertEqual(self.strings(text, "[*][*]"), ["e"])

    def test_a_path_goes_along_the_whole_way(self):
        text = '{"a":{"b":{"c":"x"}}}'
        self.assertEqual(self.strings(text, ".a.b.c"), ["x"])
        for path in (".b.c", ".c", ".a.c", ".a.b.c.d", ".a.b.c[0]", ".a.a.b.c"):
            self.assertEqual(self.strings(text, path), [])

    def test_two_dots_before_a_name(self):
        text = '{"a":"1","b":{"a":"2","c":[{"a":"3"},["4"]]},"d":[{"b":{"a":"5"}}]}'
        self.assertEqual(self.strings(text, "..a"), ["1", "2", "3", "5"])
        self.assertEqual(self.strings(text, ".b..a"), ["2", "3"])
        self.assertEqual(self.strings(text, "..b.a"), ["2", "5"])
        self.assertEqual(self.strings(text, "..b..a"), ["2", "3", "5"])
        self.assertEqual(self.strings(text, "..[*]..a"), ["3", "5"])
        self.assertEqual(fed(text, "..c..[0]"),
                         right(opened(1, OBJECT), name("a"), string(0, "3"), closed(OBJECT), string(1, "4")))

    def test_two_dots_before_the_others(self):
        text = '{"a":"1","b":["2",["3","4"],{"c":"5"}]}'
        self.assertEqual(fed(text, "..[1]"),
                         right(opened(1, ARRAY), string(0, "3"), string(1, "4"), closed(ARRAY)))
        self.assertEqual(self.strings(text, "..b[0]"), ["2"])
        self.assertEqual(self.strings(text, "..[1]..[1]"), ["4"])
        self.assertEqual(self.strings(text, "..[2].*"), ["5"])
        self.assertEqual(self.strings(text, "..[2]..*"), ["5"])
        self.assertEqual(self.strings(text, "..[*][*]"), ["3", "4"])

    def test_eight_steps(self):
        deep = '{"a":' * 8 + '"x"' + "}" * 8
        self.assertEqual(self.strings(deep, ".a" * 8), ["x"])
        self.assertEqual(self.strings(deep, "..a" * 8), ["x"])
        self.assertEqual(self.strings(deep, ".a" * 7 + "..a"), ["x"])
        self.assertEqual(self.strings('[' * 8 + '"x"' + "]" * 8, "[0]" * 8), ["x"])

    def test_eight_steps_go_no_other_way(self):
        for step, other, head, tail in ((".a", ".b", '{"a":', "}"), ("[0]", "[1]", "[", "]"),
                                        (".*", "[*]", '{"a":', "}"), ("[*]", ".*", "[", "]")):
            kind = OBJECT if tail == "}" else ARRAY
            self.assertEqual(fed(head * 7 + '"x"' + tail * 7, [step * 8]), right())
            self.assertEqual(fed(head * 9 + '"x"' + tail * 9, [step * 8]), right(opened(1, kind)))
            names = [name("a")] if kind == OBJECT else []
            self.assertEqual(fed(head * 10 + '"x"' + tail * 10, step * 8),
                             right(opened(1, kind), *names, opened(0, kind), *names, string(0, "x"), closed(kind),
                                   closed(kind)))
            for at in range(8):
                path = step * at + other + step * (7 - at)
                self.assertEqual(self.strings(head * 8 + '"x"' + tail * 8, path), [])
                self.assertEqual(self.strings(head * 9 + '"x"' + tail * 9, path), [])

    def test_names_with_escapes(self):
        text = '{"\\u0061":"1","\\u0061b":"2","\\/":"3","a\\u0000":"4","\\u002a":"5","\\ud83d\\ude00":"6"}'
        self.assertEqual(self.strings(text, ".a"), ["1"])
        self.assertEqual(self.strings(text, ".ab"), ["2"])
        self.assertEqual(self.strings(text, "./"), ["3"])
        self.assertEqual(self.strings(text, ".*"), ["1", "2", "3", "4", "5", "6"])

    def test_names_longer_than_a_path_can_name(self):
        text = '{"%s":"1","%s":"2","%s":"3"}' % ("a" * 31, "a" * 32, "a" * 33)
        self.assertEqual(self.strings(text, "." + "a" * 32), ["2"])
        self.assertEqual(self.strings(text, "." + "a" * 31), ["1"])
        self.assertEqual(self.strings(text, ".*"), ["1", "2", "3"])
        self.assertEqual(fed('{"%s":0}' % ("b" * 500), ""),
                         right(opened(1, OBJECT), name("b" * 500), number(0, "0"), closed(OBJECT)))

    def test_name_of_an_earlier_member_counts_no_more(self):
        self.assertEqual(self.strings('{"a":{"b":"1"},"c":{"b":"2"}}', ".a.b"), ["1"])
        self.assertEqual(self.strings('{"a":{"x":["1"],"b":"2"},"b":"3"}', ".a.b"), ["2"])


class ShutTest(unittest.TestCase):
    def test_the_rest_is_left_out(self):
        self.assertEqual(fed('{"a":[1,[2],"x"],"b":{"c":null},"d":3}', [".*"]),
                         right(opened(1, ARRAY), opened(1, OBJECT), number(1, "3")))

    def test_shut_root(self):
        self.assertEqual(fed('[1,"x"] ', [""]), right(opened(1, ARRAY)))
        self.assertEqual(fed('"x"', [""]), right(string(1, "x")))

    def test_nothing_in_it_is_told_whoever_asks(self):
        self.assertEqual(fed('[{"a":["x"]},"y"]', ["[0]"], "[0].a", "..[0]", "[1]"),
                         right(opened(5, OBJECT), name("a"), opened(2, ARRAY), string(4, "x"), closed(ARRAY),
                               closed(OBJECT), string(8, "y")))
        self.assertEqual(fed('[{"a":["x"]},"y"]', ["[0]"], "[0].a", "..a", "[1]"),
                         right(opened(1, OBJECT), string(8, "y")))

    def test_one_that_is_not_shut_is_enough(self):
        self.assertEqual(fed('["x"]', [""], ""), right(opened(3, ARRAY), string(0, "x"), closed(ARRAY)))
        self.assertEqual(fed('["x"]', [""], [""]), right(opened(3, ARRAY)))

    def test_shut_within_what_is_told(self):
        self.assertEqual(fed('[[1],{"a":[2]},3]', "", ["[1].a"], ["[0]"]),
                         right(opened(1, ARRAY), opened(4, ARRAY), opened(0, OBJECT), name("a"), opened(2, ARRAY),
                               closed(OBJECT), number(0, "3"), closed(ARRAY)))

    def test_not_chosen_within_what_is_told_is_not_left_out(self):
        self.assertEqual(fed("[[1]]", "", [".a"]),
                         right(opened(1, ARRAY), opened(0, ARRAY), number(0, "1"), closed(ARRAY), closed(ARRAY)))

    def test_telling_goes_on_behind_what_is_left_out(self):
        self.assertEqual(fed('{"a":{"b":[[]]},"c":"x"}', [".a"], ".c"), right(opened(1, OBJECT), string(2, "x")))
        self.assertEqual(fed('[[[["x"]]],[[["y"]]]]', ["[0][0]"], "..[0][0][0][0]"),
                         right(opened(1, ARRAY)))

    def test_shut_in_what_is_not_told_lets_the_others_choose(self):
        self.assertEqual(fed('{"a":["x",["y"]],"b":["z"]}', [".a[1]"], "..[0]"),
                         right(string(2, "x"), opened(1, ARRAY), string(2, "z")))


if __name__ == "__main__":
    unittest.main()

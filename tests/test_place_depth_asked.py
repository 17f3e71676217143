"""place, depth and asked: what they answer, and when it changes."""

import unittest

from tests.helper import ask, asked, begin, blanks, check, depth, drop, end, feed, place, raw, run


class PlaceTest(unittest.TestCase):
    def test_at_first_and_behind_begin(self):
        self.assertEqual(run(place(), place(), begin(), place()), [[0, 0], [0, 0], [0], [0, 0]])
        for text in ("[1", "12", "x", "[] x", "", " "):
            for ends in ([], [end()]):
                self.assertEqual(run(feed(text), *ends, begin(), place(), feed("[1"), place())[-3:],
                                 [[0, 0], [0], [0, 2]])

    def test_behind_pieces_of_no_one_and_many_bytes(self):
        given = run(feed(""), place(), feed(" "), place(), feed("["), place(), feed(""), place(), feed('"abc",12'),
                    place(), feed(" " * 16000), place(), feed(",3]"), place())
        self.assertEqual(given[1::2], [[0, 0], [0, 1], [0, 2], [0, 2], [0, 10], [0, 16010], [0, 16013]])

    def test_bytes_are_counted_not_characters(self):
        given = run(feed('"\u00e4\u20ac'), place(), feed(b"\xf0\x9f"), place(), feed(b"\x98\x80\\ud83d\\ude00"),
                    place())
        self.assertEqual(given[1::2], [[0, 6], [0, 8], [0, 22]])

    def test_every_byte(self):
        text = raw(' {"a":[1.5e3,"\\u0041"]} ')
        given = run(*[call for byte in text for call in (feed(bytes([byte])), place())])
        self.assertEqual(given[1::2], [[0, count + 1] for count in range(len(text))])

    def test_behind_a_wrong_byte(self):
        for text, taken in (("x", 0), (" x", 1), ("[1}", 2), ("[1,]", 3), ("[12x,3]", 3), ("nulL", 3), ("01", 1),
                            ("1" * 65, 64), ("1" * 63 + ".0", 63), ('"\\ud83d\\u0041"', 9), ('"\\udc00"', 4),
                            (b'"\xe2\x82"', 3), (b'"\xed\xa0\x80"', 2), ("[" * 40, 32), ("[] []", 3), ('{"a" 1}', 5),
                            ("12]", 2), ("1 ,", 2), ('"\x01"', 1), ("1 2", 2), ("[1]]", 3)):
            text = raw(text)
            given = run(feed(text + b"  "), place(), feed("  "), place(), end(), place())
            self.assertEqual(given, [[1], [0, taken], [-2], [0, taken], [-2], [0, taken]], text)
            given = run(*[feed(text[at:at + 2]) for at in range(0, len(text), 2)], place())
            self.assertEqual(given[-1], [0, taken], text)

    def test_behind_a_refused_feed(self):
        given = run(*blanks(64000), place(), feed(" " * 1537), place(), feed(" " * 1536), place(), feed(" "), place(),
                    feed(""), place())
        self.assertEqual(given[4:], [[0, 64000], [-3], [0, 64000], [0], [0, 65536], [-3], [0, 65536], [0], [0, 65536]])
        self.assertEqual(run(feed("1"), end(), feed("2"), feed(""), place())[2:], [[-2], [-2], [0, 1]])

    def test_behind_end(self):
        for text in ("12", "[1", "", " ", '"x"'):
            self.assertEqual(run(feed(text), end(), place(), end(), place())[2::2], [[0, len(text)]] * 2)

    def test_other_calls_change_nothing(self):
        others = [ask(""), ask("a"), check(".a"), drop(0), drop(0), depth(), asked(), place()]
        given = run(feed("[1"), *[call for other in others for call in (other, place())])
        self.assertEqual(given[2::2], [[0, 2]] * len(others))


class DepthTest(unittest.TestCase):
    def depths(self, text):
        """The depth behind each byte of the text."""
        found = []
        for at in range(0, len(text), 25):
            part = text[at:at + 25]
            calls = [call for sign in part for call in (feed(sign), depth())]
            given = run(*([feed(text[:at])] if at else []), *calls)
            found += given[-2 * len(part):][1::2]
        self.assertTrue(all(answer[0] == 0 and len(answer) == 2 for answer in found))
        return [answer[1] for answer in found]

    def test_at_first_and_behind_begin(self):
        self.assertEqual(run(depth(), feed(""), depth(), feed(" "), depth())[::2], [[0, 0]] * 3)
        for text in ("[", "[[{", '{"a":[', "[[x", "12"):
            for ends in ([], [end()]):
                self.assertEqual(run(feed(text), *ends, begin(), depth(), feed("[["), depth())[-3:],
                                 [[0, 0], [0], [0, 2]])

    def test_opening_and_closing(self):
        self.assertEqual(self.depths('[{"a":[1,[]],"b":{}}] '),
                         [1, 2, 2, 2, 2, 2, 3, 3, 3, 4, 3, 2, 2, 2, 2, 2, 2, 3, 2, 1, 0, 0])

    def test_brackets_within_strings_and_names(self):
        self.assertEqual(self.depths('["[{","\\"["]'), [1] * 11 + [0])
        self.assertEqual(self.depths('{"}[":"]{"}'), [1] * 10 + [0])

    def test_values_alone(self):
        for text in ("null ", "-12 ", '"x" '):
            self.assertEqual(self.depths(text), [0] * len(text))

    def test_to_32_and_back(self):
        self.assertEqual(self.depths("[" * 32 + "1" + "]" * 32),
                         list(range(1, 33)) + [32] + list(range(31, -1, -1)))
        for count in range(33):
            self.assertEqual(run(feed('{"a":' * count), depth())[-1], [0, count])

    def test_behind_a_33rd(self):
        for opening in "[{":
            given = run(feed("[" * 32), depth(), feed(opening), depth(), feed("]"), depth(), end(), depth())
            self.assertEqual(given, [[0], [0, 32], [1], [0, 32], [-2], [0, 32], [-2], [0, 32]])
        self.assertEqual(run(feed("[" * 40), depth())[-1], [0, 32])
        self.assertEqual(run(feed("[" * 32 + "],["), depth())[-1], [0, 32])

    def test_behind_a_wrong_byte(self):
        for text, deep in (("x", 0), ("[x", 1), ("[1}", 1), ("[[1]}", 1), ('{"a":[1}', 2), ("[]]", 0), ("[[],]", 1),
                           ('{"a":1]', 1), ("[[[1,]]]", 3)):
            given = run(feed(text), depth(), feed("]"), depth(), end(), depth())
            self.assertEqual(given, [[1], [0, deep], [-2], [0, deep], [-2], [0, deep]], text)

    def test_within_what_is_left_out(self):
        given = run(ask("[*]", 1), feed("[["), depth(), feed('{"a":['), depth(), feed("[1"), depth(), feed("]]}"),
                    depth(), feed("]"), depth(), feed("]"), depth())
        self.assertEqual(given[2::2], [[0, 2], [0, 4], [0, 5], [0, 2], [0, 1], [0, 0]])
        self.assertEqual(run(ask("", 1), feed("[" * 32), depth(), feed("]" * 32), depth())[2::2], [[0, 32], [0, 0]])

    def test_within_what_is_told_and_what_is_not(self):
        for asks in ([], [ask("")], [ask("..[*]")], [ask(".a")]):
            self.assertEqual(run(*asks, feed("[[[1],"), depth())[-1], [0, 2])

    def test_behind_end(self):
        for text, deep in (("", 0), (" ", 0), ("12", 0), ("[1]", 0), ("[", 1), ("[[1", 2), ('{"a":[{"b":"x', 3),
                           ("[" * 32, 32), ("[[1],", 1)):
            self.assertEqual(run(feed(text), end(), depth(), end(), depth(), feed(""), depth())[2::2], [[0, deep]] * 3)

    def test_other_calls_change_nothing(self):
        others = [ask(""), ask("a"), check(".a"), drop(0), drop(0), depth(), asked(), place()]
        given = run(feed("[[1"), *[call for other in others for call in (other, depth())])
        self.assertEqual(given[2::2], [[0, 2]] * len(others))


class AskedTest(unittest.TestCase):
    def test_none(self):
        self.assertEqual(run(asked(), begin(), asked(), feed("["), asked())[::2], [[0]] * 3)

    def test_some_and_all(self):
        calls = [call for count in range(16) for call in (ask(".a", count % 2), asked())]
        given = run(*calls)
        self.assertEqual(given[1::2], [[0] + list(range(count + 1)) for count in range(16)])

    def test_behind_drops_and_new_ones_they_rise(self):
        given = run(*[ask(".a")] * 6, drop(4), asked(), drop(0), asked(), drop(2), asked(), ask(".b"), asked(),
                    ask(".c"), asked(), drop(5), asked(), ask(".d"), asked(), ask(".e"), asked(), ask(".f"), asked())
        self.assertEqual(given[7::2], [[0, 0, 1, 2, 3, 5], [0, 1, 2, 3, 5], [0, 1, 3, 5], [0, 0, 1, 3, 5],
                                       [0, 0, 1, 2, 3, 5], [0, 0, 1, 2, 3], [0, 0, 1, 2, 3, 4], [0, 0, 1, 2, 3, 4, 5],
                                       [0, 0, 1, 2, 3, 4, 5, 6]])

    def test_all_sixteen_dropped_from_the_middle(self):
        order = [9, 10, 8, 15, 0, 2, 1, 14, 3, 13, 4, 12, 5, 11, 6, 7]
        left = list(range(16))
        expected = []
        for number in order:
            left.remove(number)
            expected += [[0], [0] + left]
        self.assertEqual(run(*[ask("")] * 16, *[call for number in order for call in (drop(number), asked())])[16:],
                         expected)

    def test_behind_what_is_refused(self):
        given = run(ask(""), ask("", 2), asked(), ask("a"), asked(), drop(1), asked(), drop(16), asked())
        self.assertEqual(given[2::2], [[0, 0]] * 4)
        given = run(*[ask("")] * 16, ask(""), asked(), ask("a"), asked())
        self.assertEqual(given[16:], [[-2], [0] + list(range(16)), [-1], [0] + list(range(16))])

    def test_behind_begin(self):
        given = run(ask(""), ask(".a"), begin(), asked(), ask(".b"), asked())
        self.assertEqual(given[2:], [[0], [0], [0, 0], [0, 0]])

    def test_behind_end_and_behind_a_wrong_byte(self):
        for over in ([feed("1"), end()], [feed("["), end()], [end()], [feed("x")], [feed("x"), end()]):
            given = run(ask(""), ask(".a"), ask(".b"), drop(1), *over, asked(), ask(".c"), asked(), drop(0), asked())
            self.assertEqual(given[-5:], [[0, 0, 2], [0, 1], [0, 0, 1, 2], [0], [0, 1, 2]])

    def test_shut_ones_and_same_paths_count(self):
        self.assertEqual(run(ask("", 1), ask("", 1), ask(""), asked())[-1], [0, 0, 1, 2])

    def test_feed_and_end_change_nothing(self):
        given = run(ask(""), ask("..a", 1), drop(0), feed("["), asked(), feed("1]"), asked(), end(), asked(), feed(""),
                    asked())
        self.assertEqual(given[4::2], [[0, 1]] * 4)


if __name__ == "__main__":
    unittest.main()

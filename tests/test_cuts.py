"""T1: what is told doesn't hang on how the text is cut, its end included."""

import unittest

from tests.helper import ask, end, feed, is_text, longest_beginning, raw, run

ASKS = [ask(""), ask("..a"), ask("[1]", 1), ask("..[0]"), ask(".b..*", 1)]

TEXTS = [
    "", " ", "null", " false ", "[true]", "-12.50e+07 ", "[0,-1,2.5,3e4]", '"x"', '"\\u00e4\\n\\"\\\\\\/"',
    '"\\ud83d\\ude00!"', '"\u00e4\u20ac\U0001f600"', '{"a":1,"b":[2]}', '[[1],[2],[3]]', '{"a":{"a":{"a":null}}}',
    '{"\\u0061":"\u00e4","b":{"c":[{}]}}', '[{"a":["x",{"a":1}]},{"a":2}]', ' [ 1 , { "b" : 2 } ] ',
    '{"b":{"a":[1,2]}}', "0", "-12.50e+07", " 7", "\t123456", "1" * 54, "true", '{"a":[0]}', "[[12", "12.", "-", "3e",
    "3E+", '{"a":7', '["x', '"\\ud83d', "nul", "[ ", '{"a"',
    "[" * 33, '[1,2,}', '["\\ud83d\\u0041"]', b'["\xe2\x82"]', "[1}", '{"a":1,}', "nulL", "01", '{"a":tru}', "[1.]",
    '[[1,{"a":"x"}],[2,{"a":"y"]]', "[12345678901234567890123456789]", b'"\xf4\x90\x80\x80"', '["a" "b"]', "[] []",
]


def in_all(pieces):
    """What all the pieces and the end tell together, whether the text was found wrong, and what the end answers."""
    given = run(*ASKS, *[feed(piece) for piece in pieces], end())[len(ASKS):]
    told = []
    found_wrong = False
    for answer in given[:-1]:
        if found_wrong:
            if answer != [-2]:
                raise AssertionError(answer)
            continue
        found_wrong = answer[0] == 1
        told.extend(answer[1:])
    told.extend(given[-1][1:])
    return found_wrong, given[-1][0], told


class CutsTest(unittest.TestCase):
    def test_byte_by_byte(self):
        for text in TEXTS:
            text = raw(text)
            self.assertEqual(in_all([text[at:at + 1] for at in range(len(text))] or [b""]), in_all([text]), text)

    def test_in_two_at_every_place(self):
        for text in TEXTS:
            text = raw(text)
            for at in range(len(text) + 1):
                self.assertEqual(in_all([text[:at], text[at:]]), in_all([text]), (text, at))

    def test_the_whole_is_right_wrong_or_unfinished(self):
        for text in TEXTS:
            text = raw(text)
            found_wrong, ended, told = in_all([text])
            self.assertEqual(found_wrong, longest_beginning(text)[0] < len(text), text)
            self.assertEqual(ended, -2 if found_wrong else 0 if is_text(text) else 1, text)

    def test_a_number_at_the_very_end(self):
        for text in (b"0", b"-12.50e+07", b" 7", b"1" * 54):
            figures = list(text.strip())
            self.assertEqual(in_all([text]), (False, 0, [5, 1, len(figures)] + figures))

    def test_in_three_at_every_place(self):
        for text in TEXTS[:28]:
            text = raw(text)
            whole = in_all([text])
            for first in range(len(text) + 1):
                for second in range(first, len(text) + 1):
                    self.assertEqual(in_all([text[:first], text[first:second], text[second:]]), whole, text)

    def test_empty_pieces_between(self):
        for text in TEXTS:
            text = raw(text)
            pieces = [b""]
            for at in range(0, len(text), 3):
                pieces += [text[at:at + 3], b""]
            self.assertEqual(in_all(pieces), in_all([text]), text)

    def test_the_wrong_byte_is_found_by_its_own_piece(self):
        for text in TEXTS:
            text = raw(text)
            whole = run(feed(text))[0]
            each = [answer[0] for answer in run(*[feed(text[at:at + 1]) for at in range(len(text))] or [feed("")])]
            self.assertEqual(whole[0], 1 if 1 in each else 0)
            if 1 in each:
                at = each.index(1)
                self.assertEqual(run(feed(text[:at]))[0][0], 0)
                self.assertEqual(run(feed(text[:at + 1]))[0][0], 1)


if __name__ == "__main__":
    unittest.main()

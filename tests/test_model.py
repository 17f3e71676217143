"""Many small texts against the model in the helper: T1 to T5 taken together."""

import random
import unittest

from tests.helper import ask, drop, feed, is_text, longest_beginning, modelled, raw, run

PATHS = ["", ".a", ".b", ".*", "[0]", "[1]", "[*]", "..a", "..b", "..*", "..[0]", "..[1]", "..[*]", ".a.b", ".a[0]",
         "[0].a", "[1][0]", "..a.b", "..a..a", "..[*]..a", "..[0][0]", ".*.*", "[*][*]", "..*..*", "..a[*]", ".a..[1]",
         "..[*]..[*]..[*]", "..a..b..*", "[*]..b", "..*.a"]
NAMES = ["a", "a", "b", "b", "\\u0061", "", "ab", "\u00e4"]
SCALARS = ["null", "false", "true", "0", "-1", "12", "1.5", "2e3", "-0.1E+2", '""', '"x"', '"\\n"', '"\\u00e4"',
           '"\\ud83d\\ude00"', '"\u20ac"', '"\U0001f600"', '"a b"']
SPOILS = [bytes([byte]) for byte in b' \n[]{},:"\\-+.0159eEnulfatrsxdDcu\x00\x1f\x7f\x80\xbf\xc3\xe0\xed\xf4\xff']


def blank(dice):
    return dice.choice(["", "", "", "", " ", "\n", "\t\r"])


def some_value(dice, depth):
    """A right value as str."""
    kind = dice.randrange(6 if depth > 0 else 3)
    if kind < 3:
        return dice.choice(SCALARS)
    inside = []
    for count in range(dice.randrange(4)):
        value = blank(dice) + some_value(dice, depth - 1) + blank(dice)
        if kind == 5:
            value = blank(dice) + '"' + dice.choice(NAMES) + '"' + blank(dice) + ":" + value
        inside.append(value)
    between = ",".join(inside) or blank(dice)
    return "{" + between + "}" if kind == 5 else "[" + between + "]"


def some_text(dice):
    return raw(blank(dice) + some_value(dice, 4) + blank(dice))


def spoiled(dice, text):
    """The text with a byte changed, put in or left out."""
    at = dice.randrange(len(text) + 1)
    return text[:at] + dice.choice(SPOILS + [b""]) + text[at + dice.randrange(2):]


def some_calls(dice, size):
    """Calls in the places where they stand between bytes, and which questions there are from then on."""
    held = {}
    calls = []
    for at in sorted(dice.choice([0, 0, dice.randrange(size + 1)]) for count in range(dice.randrange(1, 9))):
        if held and dice.randrange(3) == 0:
            number = dice.choice(sorted(held))
            held = {q: held[q] for q in held if q != number}
            calls.append((at, drop(number), held))
        else:
            path = dice.choice(PATHS)
            shut = int(dice.randrange(4) == 0)
            number = min(q for q in range(16) if q not in held)
            held = {**held, number: (shut, raw(path))}
            calls.append((at, ask(path, shut), held))
    return calls


class ModelTest(unittest.TestCase):
    def compare(self, dice, text):
        """Feed the text with calls between, also cut elsewhere, and compare each piece with the model."""
        calls = some_calls(dice, len(text))

        def asked_at(place):
            before = [held for at, call, held in calls if at <= place]
            return before[-1] if before else {}

        size, things = modelled(text, asked_at)
        cuts = sorted({0, len(text)} | {at for at, call, held in calls} | {dice.randrange(len(text) + 1)})
        line = []
        expected = {}
        for begin, end in zip(cuts, cuts[1:] + [None]):
            line += [call for at, call, held in calls if at == begin]
            if end is None:
                break
            told = [n for place, numbers in things if begin <= place < end for n in numbers]
            if begin > size:
                expected[len(line)] = [-2]
            else:
                expected[len(line)] = [1 if size < end else 0] + told
            line.append(feed(text[begin:end]))
        given = run(*line)
        for at, answer in expected.items():
            self.assertEqual(given[at], answer, (text, [(place, call) for place, call, held in calls], cuts))

    def test_right_texts(self):
        for seed in range(600):
            dice = random.Random(seed)
            text = some_text(dice)
            self.assertTrue(is_text(text))
            self.compare(dice, text)

    def test_spoiled_texts(self):
        for seed in range(1000):
            dice = random.Random(100000 + seed)
            self.compare(dice, spoiled(dice, some_text(dice)))

    def test_texts_of_random_signs(self):
        signs = [b"[", b"]", b"{", b"}", b",", b":", b'"a"', b'"', b"1", b"null", b" ", b"-", b"0", b".", b"e", b"\\u",
                 b"d8", b"00", b"\\udc00", b"\xe2\x82", b"\xac"]
        for seed in range(600):
            dice = random.Random(200000 + seed)
            text = b"".join(dice.choice(signs) for count in range(dice.randrange(1, 12)))
            self.compare(dice, text)

    def test_first_wrong_byte_of_short_texts(self):
        """Every text of up to four of these signs."""
        signs = [b"[", b"]", b"{", b"}", b",", b":", b'"', b"0", b"-", b" ", b"\\", b"t"]
        texts = [b""]
        for size in range(4):
            texts = [text + sign for text in texts for sign in signs]
            texts = [text for text in texts if longest_beginning(text)[0] >= len(text) - 1]
            for text in texts:
                taken = longest_beginning(text)[0]
                self.assertEqual(run(feed(text))[0], [0 if taken == len(text) else 1], text)
                self.assertEqual(run(feed(text[:taken]))[0], [0], text)


if __name__ == "__main__":
    unittest.main()

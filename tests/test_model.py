"""Many small texts against the model in the helper, with their ends: T1 to T5 taken together."""

import random
import unittest

from tests.helper import (PATHS, Model, ask, closers, depth, drop, end, feed, is_text, longest_beginning, modelled,
                          place, raw, run, some_text, spoiled)


def some_calls(dice, size):
    """Calls in the places where they stand between bytes, and which questions there are from then on."""
    held = {}
    calls = []
    for at in sorted(dice.choice([0, 0, dice.randrange(size + 1)]) for count in range(dice.randrange(1, 9))):
        if held and dice.randrange(3) == 0:
            number = dice.choice(sorted(held))
            held = {q: held[q] for q in held if q != number}
            calls.append((at, drop(number), held))
        else:
            path = dice.choice(PATHS)
            shut = int(dice.randrange(4) == 0)
            number = min(q for q in range(16) if q not in held)
            held = {**held, number: (shut, raw(path))}
            calls.append((at, ask(path, shut), held))
    return calls


def ended(text, size, asked_at):
    """The answer to the end of the text, so many bytes of which are right."""
    if size < len(text):
        return [-2]
    if not is_text(text):
        return [1]
    return [0] + [n for at, numbers in Model(text, asked_at).things if at == len(text) for n in numbers]


class ModelTest(unittest.TestCase):
    def compare(self, dice, text):
        """Feed the text with calls between, also cut elsewhere, end it, and compare each answer with the model."""
        calls = some_calls(dice, len(text))

        def asked_at(at):
            before = [held for since, call, held in calls if since <= at]
            return before[-1] if before else {}

        size, things = modelled(text, asked_at)
        cuts = sorted({0, len(text)} | {at for at, call, held in calls} | {dice.randrange(len(text) + 1)})
        line = []
        expected = {}
        for first, behind in zip(cuts, cuts[1:] + [None]):
            line += [call for at, call, held in calls if at == first]
            if behind is None:
                break
            told = [n for at, numbers in things if first <= at < behind for n in numbers]
            if first > size:
                expected[len(line)] = [-2]
            else:
                expected[len(line)] = [1 if size < behind else 0] + told
            line.append(feed(text[first:behind]))
        expected[len(line)] = ended(text, size, asked_at)
        expected[len(line) + 1] = [0, size]
        expected[len(line) + 2] = [0, len(closers(text[:size]))]
        given = run(*line, end(), place(), depth())
        for at, answer in expected.items():
            self.assertEqual(given[at], answer, (text, [(since, call) for since, call, held in calls], cuts))

    def test_right_texts(self):
        for seed in range(600):
            dice = random.Random(seed)
            text = some_text(dice)
            self.assertTrue(is_text(text))
            self.compare(dice, text)

    def test_spoiled_texts(self):
        for seed in range(1000):
            dice = random.Random(100000 + seed)
            self.compare(dice, spoiled(dice, some_text(dice)))

    def test_texts_of_random_signs(self):
        signs = [b"[", b"]", b"{", b"}", b",", b":", b'"a"', b'"', b"1", b"null", b" ", b"-", b"0", b".", b"e", b"\\u",
                 b"d8", b"00", b"\\udc00", b"\xe2\x82", b"\xac"]
        for seed in range(600):
            dice = random.Random(200000 + seed)
            text = b"".join(dice.choice(signs) for count in range(dice.randrange(1, 12)))
            self.compare(dice, text)

    def test_first_wrong_byte_and_end_of_short_texts(self):
        """Every text of up to four of these signs."""
        signs = [b"[", b"]", b"{", b"}", b",", b":", b'"', b"0", b"-", b" ", b"\\", b"t"]
        texts = [b""]
        for size in range(4):
            texts = [text + sign for text in texts for sign in signs]
            texts = [text for text in texts if longest_beginning(text)[0] >= len(text) - 1]
            for text in texts:
                taken = longest_beginning(text)[0]
                found = [1, -2] if taken < len(text) else [0, 0 if is_text(text) else 1]
                given = run(feed(text), end(), place(), depth())
                self.assertEqual(given, [[found[0]], [found[1]], [0, taken], [0, len(closers(text[:taken]))]], text)
                self.assertEqual(run(feed(text[:taken]))[0], [0], text)


if __name__ == "__main__":
    unittest.main()

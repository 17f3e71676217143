"""Long lines of calls of all nine kinds against the line's model in the helper."""

import random
import unittest

from tests.helper import (PATHS, LineModel, ask, asked, begin, check, depth, drop, end, feed, place, run, some_text,
                          spoiled)

NO_PATHS = ["a", ".", "[01]", "..", ".a" * 9, "[1000000]", "." + "n" * 33, ".a]", " "]
CALLS = 60


class LineMaker:
    """Makes a line by dice: texts, right and spoiled ones, come in pieces, and other calls come between."""

    def __init__(self, dice, mostly):
        self.dice = dice
        self.mostly = mostly
        self.left = self.new_text()

    def new_text(self):
        text = some_text(self.dice)
        chance = self.dice.randrange(10)
        if chance < 3:
            return spoiled(self.dice, text)
        if chance < 5:
            return text[:self.dice.randrange(len(text) + 1)]
        return text

    def some_feed(self):
        size = self.dice.choice([0, 1, 1, 2, 3, 5, 8, 13, len(self.left)])
        piece, self.left = self.left[:size], self.left[size:]
        return feed(piece)

    def some_end(self):
        """An end, mostly when the text has come whole."""
        if self.left and self.dice.randrange(8) > 0:
            return self.some_feed()
        return end()

    def some_begin(self):
        """A new text, mostly when the last one has come whole."""
        if self.left and self.dice.randrange(8) > 0:
            return self.some_feed()
        self.left = self.new_text()
        return begin()

    def some_ask(self):
        path = self.dice.choice(PATHS + PATHS + NO_PATHS)
        return ask(path, self.dice.choice([0, 0, 0, 0, 1, 1, 2]))

    def some_call(self):
        kinds = [1, 2, 3, 3, 4, 5, 5, 5, 6, 7, 8, 9] + self.mostly
        return {
            1: lambda: check(self.dice.choice(PATHS + NO_PATHS)), 2: self.some_begin, 3: self.some_ask,
            4: lambda: drop(self.dice.choice([0, 0, 1, 2, 3, 4, 5, 15, 16, 16383])), 5: self.some_feed,
            6: self.some_end, 7: place, 8: depth, 9: asked,
        }[self.dice.choice(kinds)]()

    def line(self, head):
        return head + [self.some_call() for count in range(CALLS - len(head))]


class LinesTest(unittest.TestCase):
    def compare(self, line):
        """Every answer is the model's; given back are the answers by kind of call."""
        self.assertEqual(len(line), CALLS)
        model = LineModel()
        expected = [model.answer(call) for call in line]
        given = run(*line)
        for at, answer in enumerate(expected):
            self.assertEqual(given[at], answer, (at, [call[:60] for call in line[:at + 1]]))
        self.assertEqual(run(*line), given)
        return [(call[0], answer[0]) for call, answer in zip(line, expected)]

    def many(self, seeds, mostly, heads):
        """Compare a line for each seed; given back is how often each kind of call had each answer."""
        seen = {}
        for seed in seeds:
            dice = random.Random(seed)
            for found in self.compare(LineMaker(dice, mostly).line(dice.choice(heads))):
                seen[found] = seen.get(found, 0) + 1
        return seen

    def test_all_nine_kinds(self):
        seen = self.many(range(300000, 300400), [], [[]])
        for found in ((1, 0), (1, -1), (2, 0), (3, 0), (3, -1), (4, 0), (4, -1), (5, 0), (5, 1), (5, -2), (6, 0),
                      (6, 1), (6, -2), (7, 0), (8, 0), (9, 0)):
            self.assertGreater(seen.get(found, 0), 20, found)

    def test_mostly_feeds_ends_and_begins(self):
        seen = self.many(range(310000, 310400), [5] * 12 + [6] * 4 + [2] * 4, [[ask("")], [ask("..[*]"), ask("..*")]])
        for found in ((5, 0), (5, 1), (5, -2), (6, 0), (6, 1), (6, -2)):
            self.assertGreater(seen.get(found, 0), 100, found)

    def test_mostly_questions(self):
        full = [ask(path) for path in PATHS[:16]]
        seen = self.many(range(320000, 320200), [3] * 8 + [4] * 3 + [5] * 6 + [9] * 3, [full, full[:14]])
        self.assertGreater(seen.get((3, -2), 0), 100)

    def test_near_the_most_bytes(self):
        heads = [[ask("")] + [feed(b" " * 16000)] * 4 + [feed(b" " * size)] for size in (1480, 1500, 1520, 1530, 1536)]
        seen = self.many(range(330000, 330060), [5] * 16, heads)
        self.assertGreater(seen.get((5, -3), 0), 20)


if __name__ == "__main__":
    unittest.main()

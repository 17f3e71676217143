"""Long lines: as many calls, bytes and questions as there may be, answered in seconds."""

import time
import unittest

from tests.helper import ARRAY, ask, begin, closed, feed, name, number, opened, run, string

SECONDS = 8


def pieces(text, size=16000):
    return [feed(text[at:at + size]) for at in range(0, len(text), size)]


def filled(head, unit, tail, size=65536):
    """A text of just so many bytes: head, as many units as there is room for, tail, blanks."""
    count = (size - len(head) - len(tail)) // len(unit)
    text = head + unit * count + tail
    return text + " " * (size - len(text)), count


class LongTest(unittest.TestCase):
    def timed(self, *calls):
        """The answers, and the things told by all feeds in one list."""
        begun = time.perf_counter()
        given = run(*calls)
        self.assertLess(time.perf_counter() - begun, SECONDS)
        told = []
        for call, answer in zip(calls, given):
            if call[0] == 5:
                self.assertEqual(answer[0], 0)
                told.extend(answer[1:])
        return told

    def test_many_numbers(self):
        text, count = filled("[1", ",1", "]")
        told = self.timed(*[ask("..[*]" * 8)] * 16, *pieces(text))
        self.assertEqual(told, [])
        told = self.timed(*[ask("..[*]" * 7)] * 15, ask("..[*]"), *pieces(text))
        self.assertEqual(told, number(32768, "1") * (count + 1))

    def test_deep_and_many(self):
        text, count = filled("[" * 32 + "1", ",1", "]" * 32)
        told = self.timed(*[ask("..[*]" * 8)] * 16, *pieces(text))
        self.assertEqual(told, opened(65535, ARRAY) * 24 + number(65535, "1") * (count + 1) + closed(ARRAY) * 24)

    def test_up_and_down(self):
        text, count = filled("[" * 30 + "1", ",[[1]]", "]" * 30)
        told = self.timed(*[ask("..[*]" * 8)] * 16, *pieces(text))
        inner = opened(65535, ARRAY) * 2 + number(65535, "1") + closed(ARRAY) * 2
        self.assertEqual(told, opened(65535, ARRAY) * 22 + number(65535, "1") + inner * count + closed(ARRAY) * 22)

    def test_members_with_one_name(self):
        text, count = filled('{"a":' * 31 + '{"a":1', ',"a":1', "}" * 32)
        told = self.timed(*[ask("..a" * 8)] * 8, *[ask("..*" * 8)] * 8, *pieces(text))
        self.assertEqual(told[:3], opened(65535, 0))
        self.assertEqual(told[-48:], closed(0) * 24)
        middle = (name("a") + number(65535, "1")) * (count + 1)
        self.assertEqual(told[-48 - len(middle):-48], middle)

    def test_sixty_calls(self):
        text, count = filled("[" * 32 + "1", ",1", "]" * 32)
        asks = [ask("..[*]" * 8)] * 16
        feeds = pieces(text, 1525)
        self.assertEqual(len(asks) + len(feeds), 59)
        told = self.timed(*asks, *feeds, feed(""))
        self.assertEqual(len(told), 3 * 24 + 4 * (count + 1) + 2 * 24)

    def test_one_long_string(self):
        text = '"' + "x" * 65534 + '"'
        self.assertEqual(self.timed(ask(""), *pieces(text)), string(1, "x" * 65534))
        text, count = filled('"', "\\ud83d\\ude00", '"')
        self.assertEqual(self.timed(ask(""), *pieces(text)), string(1, "\U0001f600" * count))
        self.assertEqual(self.timed(*[ask("..*" * 8)] * 16, *pieces(text)), [])

    def test_one_long_name(self):
        long_name = "n" * 65000
        text = '{"' + long_name + '":["v"]}'
        told = self.timed(*[ask("..*" * 8)] * 14, ask(".*"), ask(".*[0]"), *pieces(text))
        self.assertEqual(told, opened(16384, ARRAY) + string(32768, "v") + closed(ARRAY))

    def test_questions_asked_deep_within(self):
        asks = [ask("..[*]" * 8)] * 16
        told = self.timed(feed("[" * 32), *asks, *pieces("1" + ",1" * 30000), feed("]" * 32))
        self.assertEqual(told, number(65535, "1") * 30001)

    def test_blanks_alone_and_begin(self):
        self.timed(*[ask("..*" * 8)] * 16, *pieces(" " * 60000), begin(), *pieces("[ " + " " * 5000))


if __name__ == "__main__":
    unittest.main()

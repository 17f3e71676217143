"""ask, drop and begin: the numbers of questions, and what is refused."""

import unittest

from tests.helper import ask, begin, drop, feed, number, right, run, string


class AskTest(unittest.TestCase):
    def test_numbers_rise_from_zero(self):
        self.assertEqual(run(ask(".a"), ask(".a"), ask("", 1)), [[0, 0], [0, 1], [0, 2]])

    def test_sixteen_and_the_seventeenth(self):
        given = run(*[ask("") for count in range(17)])
        self.assertEqual(given, [[0, count] for count in range(16)] + [[-2]])

    def test_seventeenth_changes_nothing(self):
        given = run(*[ask(".a") for count in range(16)], ask(""), feed('1 '))
        self.assertEqual(given[16:], [[-2], [0]])

    def test_all_sixteen_choose(self):
        given = run(*[ask("") for count in range(16)], feed('1 '))
        self.assertEqual(given[-1], right(number(65535, "1")))

    def test_least_free_number_behind_a_drop(self):
        given = run(ask(".a"), ask(".b"), ask(".c"), drop(1), ask(".d"), ask(".e"), drop(0), drop(3), ask(".f"),
                    ask(".g"))
        self.assertEqual(given, [[0, 0], [0, 1], [0, 2], [0], [0, 1], [0, 3], [0], [0], [0, 0], [0, 3]])

    def test_least_free_number_of_sixteen(self):
        given = run(*[ask("") for count in range(16)], drop(15), ask(""), ask(""), drop(7), drop(3), ask(""), ask(""),
                    ask(""))
        self.assertEqual(given[16:], [[0], [0, 15], [-2], [0], [0], [0, 3], [0, 7], [-2]])

    def test_shut(self):
        for shut, answer in ((0, [0, 0]), (1, [0, 0]), (2, [-1]), (3, [-1]), (16383, [-1])):
            self.assertEqual(run(ask("", shut)), [answer])

    def test_no_path(self):
        for path in ("a", ".", ".a" * 9, "[01]", "." + "a" * 33, "[1000000]", ".a" * 151):
            self.assertEqual(run(ask(path), ask(path, 1), ask(".a")), [[-1], [-1], [0, 0]])

    def test_both_of_the_first_refusal(self):
        self.assertEqual(run(ask("a", 2)), [[-1]])

    def test_both_refusals_at_once(self):
        full = [ask(".a") for count in range(16)]
        given = run(*full, ask("a"), ask(".a", 2), ask("a", 2), ask(".a"))
        self.assertEqual(given[16:], [[-1], [-1], [-1], [-2]])

    def test_a_refused_question_does_not_hold(self):
        self.assertEqual(run(ask("", 2), ask("a"), feed('"x"')), [[-1], [-1], [0]])

    def test_begin_drops_all_questions(self):
        given = run(ask(""), ask(".a"), begin(), feed('"x"'), begin(), ask(""), feed('"x"'))
        self.assertEqual(given, [[0, 0], [0, 1], [0], [0], [0], [0, 0], right(string(1, "x"))])


class DropTest(unittest.TestCase):
    def test_no_such_question(self):
        for number_wanted in (0, 1, 15, 16, 16383):
            self.assertEqual(run(drop(number_wanted)), [[-1]])

    def test_number_that_is_not_there(self):
        self.assertEqual(run(ask(""), drop(1), drop(16), drop(0), drop(0)), [[0, 0], [-1], [-1], [0], [-1]])

    def test_refused_drop_changes_nothing(self):
        self.assertEqual(run(ask(""), drop(1), feed('"x"'))[-1], right(string(1, "x")))

    def test_dropped_question_chooses_no_more(self):
        given = run(ask(""), ask(""), drop(0), feed('"x"'))
        self.assertEqual(given[-1], right(string(2, "x")))

    def test_number_given_again_is_the_new_question(self):
        given = run(ask("[0]"), ask("[*]", 1), drop(0), ask("[1]"), feed('["x","y"]'))
        self.assertEqual(given[-1], right(string(2, "x"), string(3, "y")))

    def test_drop_behind_begin(self):
        self.assertEqual(run(ask(""), begin(), drop(0)), [[0, 0], [0], [-1]])


if __name__ == "__main__":
    unittest.main()

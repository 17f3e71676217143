"""check: what is a path, and how many steps it has."""

import unittest

from tests.helper import check, path_steps, run


def steps(path):
    """The answer to check of one path."""
    return run(check(path))[0]


class CheckTest(unittest.TestCase):
    def is_path(self, path, count):
        self.assertEqual(steps(path), [0, count], path)

    def is_none(self, path):
        self.assertEqual(steps(path), [-1], path)

    def test_empty_path_has_no_steps(self):
        self.is_path("", 0)

    def test_each_kind_of_step(self):
        for path in (".a", ".*", "[0]", "[7]", "[*]", "..a", "..*", "..[0]", "..[7]", "..[*]"):
            self.is_path(path, 1)

    def test_steps_one_behind_another(self):
        self.is_path(".a.b", 2)
        self.is_path(".a[0].b..c[*]..[3]..*.*", 8)
        self.is_path("[0][1]", 2)
        self.is_path(".*[*]", 2)
        self.is_path(".*.*", 2)
        self.is_path("..*..*", 2)
        self.is_path("[*].a", 2)

    def test_eight_steps_and_nine(self):
        for step in (".a", ".*", "[0]", "[*]", "..a", "..*", "..[0]", "..[*]"):
            self.is_path(step * 7, 7)
            self.is_path(step * 8, 8)
            self.is_none(step * 9)
            self.is_none(step * 8 + ".")

    def test_longest_path_there_is(self):
        self.is_path(("..." + "n" * 32)[1:] * 8, 8)

    def test_300_bytes_and_301(self):
        # Eight steps have 272 bytes at most, so that no path of 300 bytes has few enough of them.
        for size in (299, 300, 301, 2000):
            self.is_none((".abcdefghi" * 200)[:size])
            self.is_none("." + "a" * (size - 1))
            self.is_none("[" + "1" * (size - 2) + "]")

    def test_length_of_names(self):
        for dots in (".", ".."):
            self.is_none(dots)
            self.is_path(dots + "a", 1)
            self.is_path(dots + "a" * 31, 1)
            self.is_path(dots + "a" * 32, 1)
            self.is_none(dots + "a" * 33)
            self.is_path(dots + "a" * 32 + ".b", 2)
            self.is_none(dots + "a" * 33 + ".b")

    def test_each_byte_alone_as_a_name(self):
        for byte in range(256):
            path = b"." + bytes([byte])
            if byte == 42:
                self.is_path(path, 1)
            elif 33 <= byte <= 126 and byte not in b'.[]*"\\':
                self.is_path(path, 1)
            else:
                self.is_none(path)

    def test_each_byte_within_a_name(self):
        for byte in range(256):
            path = b"..x" + bytes([byte]) + b"y"
            if byte == 46:
                self.is_path(path, 2)
            elif 33 <= byte <= 126 and byte not in b'[]*"\\':
                self.is_path(path, 1)
            else:
                self.is_none(path)

    def test_digits_of_numbers(self):
        for dots in ("", ".."):
            self.is_none(dots + "[]")
            self.is_path(dots + "[0]", 1)
            self.is_path(dots + "[9]", 1)
            self.is_path(dots + "[10]", 1)
            self.is_path(dots + "[100000]", 1)
            self.is_path(dots + "[999999]", 1)
            self.is_none(dots + "[1000000]")
            self.is_none(dots + "[9999999]")

    def test_zero_at_first(self):
        for within in ("00", "01", "000000", "012345"):
            self.is_none("[" + within + "]")

    def test_each_byte_as_a_number(self):
        for byte in range(256):
            for path in (b"[" + bytes([byte]) + b"]", b"..[1" + bytes([byte]) + b"]"):
                if byte in b"0123456789" or (byte == 42 and len(path) == 3):
                    self.is_path(path, 1)
                else:
                    self.is_none(path)

    def test_unfinished_steps(self):
        for path in (".", "..", "...", "[", "[1", "[*", "..[", "..[1", "..[*", ".a.", ".a..", ".a[", ".a[1", "[0].",
                     "[0]..", "[0][", ".*.", ".*["):
            self.is_none(path)

    def test_wrong_steps(self):
        for path in ("a", "*", "]", "1", "a.b", ".[0]", ".[*]", "...a", "...[0]", ".a...b", ".a.[0]", "[a]", "[-1]",
                     "[+1]", "[1.0]", "[ 1]", "[1 ]", "[**]", "[*1]", "[1*]", "[[0]]", "[0]]", "[0]a", "[0]*", ".*a",
                     ".a*", ".**", "..**", ".a]", ".a b", " .a", ".a ", '."a"', ".a\\b", "[0] [1]", ".\u00e4"):
            self.is_none(path)

    def test_agrees_with_the_model_on_short_paths(self):
        signs = b'.[]*0a"'
        paths = [b""]
        for size in range(5):
            paths = [path + bytes([sign]) for path in paths for sign in signs]
            for at in range(0, len(paths), 60):
                some = paths[at:at + 60]
                for path, answer in zip(some, run(*[check(path) for path in some])):
                    found = path_steps(path)
                    self.assertEqual(answer, [-1] if found is None else [0, len(found)], path)


if __name__ == "__main__":
    unittest.main()

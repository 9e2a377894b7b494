"""Points 64 and 65: names, paths and targets."""

import unittest

from tidemark.files.names import is_name, is_path, is_target, names_of

LETTERS = "ABCDEFGHIJKLMNOPQRSTUVWXYZabcdefghijklmnopqrstuvwxyz"


def long_path(many, length):
    """A path of this many names and this many characters."""
    names = ["a"] * many
    while sum(len(name) + 1 for name in names) < length:
        short = min(range(many), key=lambda at: len(names[at]))
        names[short] += "b"
    return "".join("/" + name for name in names)


class Names(unittest.TestCase):
    """Point 64."""

    def test_characters(self):
        for code in list(range(300)) + [8364, 65313, 1632]:
            character = chr(code)
            expected = character in LETTERS + "0123456789_-"
            self.assertEqual(is_name(character), expected, code)
            self.assertEqual(is_name("a" + character), expected or character == ".", code)

    def test_lengths(self):
        for length, expected in ((0, False), (1, True), (31, True), (32, True), (33, False), (300, False)):
            self.assertEqual(is_name("a" * length), expected, length)

    def test_dots(self):
        for text in (".", "..", "...", "." * 32):
            self.assertFalse(is_name(text))
        for text in ("a.", ".a", "..a..", "._", "." * 31 + "-"):
            self.assertTrue(is_name(text), text)


class Paths(unittest.TestCase):
    """Point 65."""

    def test_absolute_paths(self):
        for path in ("/", "/a", "/a/b", "/A-1/_.x/9"):
            self.assertIs(is_path(path), True, path)
            self.assertIs(is_target(path), True, path)

    def test_what_is_no_absolute_path(self):
        for text in ("", "a", "a/b", "/a/", "//a", "//", "/a//b", "/.", "/a/..", "/a b", "/a/" + "b" * 33, "/a\n"):
            self.assertIs(is_path(text), False, text)

    def test_relative_paths(self):
        for text in ("a", "a/b", "..x/y", "A-1/_.x/9"):
            self.assertIs(is_target(text), True, text)

    def test_what_is_no_target(self):
        for text in ("", "/a/", "a/", "//a", "a//b", "//", ".", "..", "a/.", "../a", "a b", "a/" + "b" * 33):
            self.assertIs(is_target(text), False, text)

    def test_numbers_of_names(self):
        for many, expected in ((1, True), (16, True), (17, False), (20, False)):
            path = "/a" * many
            self.assertEqual(is_path(path), expected, many)
            self.assertEqual(is_target(path), expected, many)
            self.assertEqual(is_target(path[1:]), expected, many)

    def test_lengths(self):
        for length, expected in ((255, True), (256, True), (257, False), (300, False)):
            path = long_path(16, length)
            self.assertEqual(len(path), length)
            self.assertEqual((is_path(path), is_target(path)), (expected, expected))
        for length, expected in ((256, True), (257, False)):
            relative = long_path(16, length + 1)[1:]
            self.assertEqual((len(relative), is_target(relative)), (length, expected))

    def test_names_of_paths(self):
        self.assertEqual(names_of("/"), [])
        self.assertEqual(names_of("/a"), ["a"])
        self.assertEqual(names_of("a"), ["a"])
        self.assertEqual(names_of("/a/.b/c"), ["a", ".b", "c"])
        self.assertEqual(names_of("a/.b/c"), ["a", ".b", "c"])
        self.assertEqual(names_of("/a" * 40), ["a"] * 40)


if __name__ == "__main__":
    unittest.main()

"""Points 90 and 91: patterns and search."""

import itertools
import unittest

from plain_tools import plain_matches
from stores import Numbers
from test_listing import SOME, nested
from trees import chain_of_links, made, told

from tidemark.errors import InvalidPath, InvalidPattern, NotDirectory, NotFound, TooManyLinks
from tidemark.tools.patterns import is_pattern, matches, search

NAMES = "ABCDEFGHIJKLMNOPQRSTUVWXYZabcdefghijklmnopqrstuvwxyz0123456789_-."


class Patterns(unittest.TestCase):
    def test_lengths(self):
        for character in "a*?":
            for many, expected in ((0, False), (1, True), (2, True), (63, True), (64, True), (65, False), (400, False)):
                self.assertIs(is_pattern(character * many), expected)

    def test_characters(self):
        for code in range(256):
            character = chr(code)
            expected = character in NAMES + "*?"
            self.assertIs(is_pattern(character), expected, character)
            self.assertIs(is_pattern("a" + character + "*"), expected, character)

    def test_no_name_at_all(self):
        for pattern in ("..", ".", "...*", "-", "?" * 64):
            self.assertTrue(is_pattern(pattern))


class Matches(unittest.TestCase):
    def check(self, pattern, name, expected):
        self.assertIs(matches(pattern, name), expected, (pattern, name))

    def test_plain_characters(self):
        self.check("ab", "ab", True)
        for name in ("a", "b", "abc", "cab", "Ab", "ba"):
            self.check("ab", name, False)
        # The signs of regular expressions mean nothing.
        self.check("a.c", "abc", False)
        self.check("a.c", "a.c", True)
        self.check("..", "ab", False)
        self.check("a-c", "b", False)

    def test_one_character(self):
        for name in ("a", "_", "-", ".", "0", "Z"):
            self.check("?", name, True)
        self.check("?", "ab", False)
        self.check("a?c", "abc", True)
        self.check("a?c", "ac", False)
        self.check("?" * 32, "n" * 32, True)
        self.check("?" * 32, "n" * 31, False)
        self.check("?" * 33, "n" * 32, False)

    def test_stars_alone(self):
        for pattern in ("*", "**", "*" * 64):
            for name in ("a", "n" * 32, ".x"):
                self.check(pattern, name, True)

    def test_stars_beside_characters(self):
        for pattern, good, bad in (
            ("*a", ("a", "aa", "ba", "n" * 31 + "a"), ("b", "ab")),
            ("a*", ("a", "aa", "ab"), ("b", "ba")),
            ("a*b", ("ab", "axb", "a" + "x" * 30 + "b", "abb"), ("a", "b", "ba", "abx")),
            ("*?", ("a", "ab"), ()),
            ("?*?", ("ab", "abc"), ("a",)),
            ("a*b*c", ("abc", "axbxc", "abbcc", "abcbc"), ("acb", "ab", "abcd")),
            ("*.tx?", (".txt", "a.txt", "a.b.txx"), ("txt", "a.tx", "a.txtt")),
            ("*ab*ab*", ("abab", "xabxabx"), ("ab", "aba", "aab")),
        ):
            for name in good:
                self.check(pattern, name, True)
            for name in bad:
                self.check(pattern, name, False)

    def test_all_short_ones(self):
        names = ["".join(row) for many in (1, 2, 3, 4) for row in itertools.product("ab", repeat=many)]
        for many in (1, 2, 3, 4):
            for row in itertools.product("ab*?", repeat=many):
                pattern = "".join(row)
                self.assertEqual(
                    [name for name in names if matches(pattern, name)],
                    [name for name in names if plain_matches(pattern, name)],
                )

    def test_drawn_ones(self):
        numbers = Numbers(3)
        for _ in range(2000):
            name = "".join(numbers.one_of("ab.") for _ in range(1 + numbers.below(12)))
            pattern = "".join(numbers.one_of("aab.**?") for _ in range(1 + numbers.below(7)))
            self.assertEqual(matches(pattern, name), plain_matches(pattern, name), (pattern, name))

    def test_what_would_take_very_long(self):
        for pattern, name, expected in (
            ("*a" * 31 + "*b", "a" * 32, False),
            ("*a" * 32, "a" * 32, True),
            ("*?" * 32, "n" * 32, True),
            ("*" * 63 + "b", "a" * 32, False),
            ("a*" * 31 + "a", "a" * 31 + "b", False),
        ):
            self.assertTrue(is_pattern(pattern))
            self.check(pattern, name, expected)


class Search(unittest.TestCase):
    def test_paths_in_the_order_of_the_listing(self):
        tree = made(*SOME)
        self.assertEqual(search(tree, "/", "?"), ["/Z", "/d", "/d/a", "/d/e", "/d/e/z", "/d/f", "/l"])
        self.assertEqual(search(tree, "/", "*"), ["/Z", "/d", "/d/a", "/d/e", "/d/e/deep", "/d/e/z", "/d/f", "/l"])
        self.assertEqual(search(tree, "/d", "*e*"), ["/d/e", "/d/e/deep"])
        self.assertEqual(search(tree, "/", "deep"), ["/d/e/deep"])
        self.assertEqual(search(tree, "/", "x*"), [])

    def test_the_first_element_is_left_out(self):
        tree = made(*SOME)
        self.assertEqual(search(tree, "/d/e", "?"), ["/d/e/z"])
        self.assertEqual(search(tree, "/d/f", "*"), [])
        self.assertEqual(search(tree, "/d/e/deep", "*"), [])

    def test_last_names_alone(self):
        tree = made(("mkdir", "/abc"), ("mkdir", "/abc/d"), ("mkdir", "/abc/d/abc"))
        self.assertEqual(search(tree, "/", "abc"), ["/abc", "/abc/d/abc"])
        self.assertEqual(search(tree, "/", "a*d"), [])

    def test_link_at_the_end_of_the_path(self):
        tree = made(*SOME, ("symlink", "/l", "/k"))
        self.assertEqual(search(tree, "/k", "*"), ["/k/deep", "/k/z"])
        self.assertEqual(search(tree, "/l", "z"), ["/l/z"])

    def test_long_paths(self):
        self.assertEqual(search(nested(40), "/n", "n"), ["/n" * depth for depth in range(2, 41)])

    def test_errors_and_their_order(self):
        tree = made(*SOME, *chain_of_links(9))
        before = told(tree)
        for path in ("", "d", "/d/", "/.."):
            self.assertRaises(InvalidPath, search, tree, path, "*")
            self.assertRaises(InvalidPath, search, tree, path, "")
        for pattern in ("", "a" * 65, "a/b", "[a]", " ", "a\n"):
            for path in ("/", "/x", "/d/f/x", "/l9"):
                self.assertRaises(InvalidPattern, search, tree, path, pattern)
        self.assertRaises(NotFound, search, tree, "/x", "*")
        self.assertRaises(NotFound, search, tree, "/d/e/z", "*")
        self.assertRaises(NotDirectory, search, tree, "/d/f/x", "*")
        self.assertRaises(TooManyLinks, search, tree, "/l9", "*")
        self.assertEqual(told(tree), before)


if __name__ == "__main__":
    unittest.main()

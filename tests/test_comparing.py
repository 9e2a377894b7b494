"""Points 92 and 93: differences and their order."""

import unittest

from test_listing import SOME, nested
from trees import chain_of_links, made, told

from tidemark.errors import InvalidPath, NotDirectory, NotFound, TooManyLinks
from tidemark.files.tree import FileTree
from tidemark.tools.comparing import differences


def compared(tree, other, path="/", other_path="/"):
    return differences(tree, path, other=other, other_path=other_path)


class Same(unittest.TestCase):
    def test_a_tree_and_itself(self):
        tree = made(*SOME)
        for path in ("/", "/d", "/d/f", "/l"):
            self.assertEqual(compared(tree, tree, path, path), [])
        self.assertEqual(compared(tree, tree.copied()), [])
        self.assertEqual(compared(FileTree(), FileTree()), [])

    def test_what_does_not_matter(self):
        """Other numbers, other counts of names, and whether ways lead to the same node."""
        one = made(("write", "/a", 0, [1]), ("link", "/a", "/b"), ("mkdir", "/d"))
        two = made(("mkdir", "/d"), ("write", "/b", 0, [1]), ("write", "/a", 0, [1]))
        self.assertEqual(compared(one, two), [])
        self.assertEqual(compared(two, one), [])
        made(("link", "/a", "/c"), ("open_file", "/b"), ("unlink", "/c"), tree=two)
        self.assertEqual(compared(one, two), [])

    def test_other_paths(self):
        tree = made(("mkdir", "/a"), ("write", "/a/f", 0, [1]), ("mkdir", "/b"), ("write", "/b/f", 0, [1]))
        self.assertEqual(compared(tree, tree, "/a", "/b"), [])
        self.assertEqual(compared(tree, tree, "/a/f", "/b/f"), [])

    def test_links_at_the_end_of_paths(self):
        tree = made(*SOME, ("symlink", "/l", "/k"))
        self.assertEqual(compared(tree, tree, "/k", "/d/e"), [])
        self.assertEqual(compared(tree, tree, "/d/e", "/k"), [])


class Changes(unittest.TestCase):
    def test_octets(self):
        one = made(("write", "/a", 0, [1]), ("write", "/b", 0, [1]), ("write", "/c", 0, []), ("write", "/e", 0, [0]))
        two = made(("write", "/a", 0, [2]), ("write", "/b", 0, [1, 0]), ("write", "/c", 0, []), ("write", "/e", 0, []))
        self.assertEqual(compared(one, two), [("/a", "octets"), ("/b", "octets"), ("/e", "octets")])
        self.assertEqual(compared(one, two, "/a", "/a"), [("/", "octets")])
        self.assertEqual(compared(one, two, "/a", "/b"), [("/", "octets")])
        self.assertEqual(compared(one, one, "/a", "/b"), [])

    def test_targets(self):
        one = made(("symlink", "x", "/a"), ("symlink", "x", "/b"))
        two = made(("symlink", "/x", "/a"), ("symlink", "x", "/b"))
        self.assertEqual(compared(one, two), [("/a", "target")])

    def test_kinds(self):
        one = made(("mkdir", "/a"), ("write", "/b", 0, []), ("symlink", "x", "/c"), ("write", "/e", 0, [120]))
        two = made(("write", "/a", 0, []), ("symlink", "x", "/b"), ("mkdir", "/c"), ("symlink", "x", "/e"))
        expected = [("/a", "kind"), ("/b", "kind"), ("/c", "kind"), ("/e", "kind")]
        self.assertEqual(compared(one, two), expected)
        self.assertEqual(compared(two, one), expected)
        self.assertEqual(compared(one, two, "/", "/a"), [("/", "kind")] + [(f"/{name}", "removed") for name in "abce"])
        self.assertEqual(compared(one, two, "/b", "/c"), [("/", "kind")])

    def test_another_kind_with_what_lies_below(self):
        one = made(("mkdir", "/a"), ("mkdir", "/a/x"), ("write", "/a/x/y", 0, []), ("write", "/b", 0, []))
        two = made(("write", "/a", 0, []), ("mkdir", "/b"), ("symlink", "z", "/b/z"))
        self.assertEqual(
            compared(one, two),
            [("/a", "kind"), ("/a/x", "removed"), ("/a/x/y", "removed"), ("/b", "kind"), ("/b/z", "added")],
        )
        self.assertEqual(
            compared(two, one),
            [("/a", "kind"), ("/a/x", "added"), ("/a/x/y", "added"), ("/b", "kind"), ("/b/z", "removed")],
        )

    def test_one_side_alone(self):
        one = made(("mkdir", "/d"), ("write", "/d/a", 0, []), ("mkdir", "/e"), ("mkdir", "/e/x"), ("symlink", "q", "/e/x/l"))
        two = made(("mkdir", "/d"), ("write", "/d/b", 0, []), ("mkdir", "/D"), ("mkdir", "/D/k"), ("write", "/D/k/f", 0, [1]))
        self.assertEqual(
            compared(one, two),
            [
                ("/D", "added"),
                ("/D/k", "added"),
                ("/D/k/f", "added"),
                ("/d/a", "removed"),
                ("/d/b", "added"),
                ("/e", "removed"),
                ("/e/x", "removed"),
                ("/e/x/l", "removed"),
            ],
        )

    def test_order(self):
        """What lies below a way comes before the next way, even if the name of that one is a longer one."""
        one = made(*[("mkdir", path) for path in ("/a", "/a/z", "/a-", "/b", "/ab")])
        self.assertEqual(
            compared(one, FileTree()),
            [(path, "removed") for path in ("/a", "/a/z", "/a-", "/ab", "/b")],
        )
        self.assertEqual(
            compared(FileTree(), one),
            [(path, "added") for path in ("/a", "/a/z", "/a-", "/ab", "/b")],
        )
        two = made(*[("mkdir", path) for path in ("/a", "/a/c", "/a-", "/a-/c", "/A")])
        self.assertEqual(
            compared(one, two),
            [
                ("/A", "added"),
                ("/a/c", "added"),
                ("/a/z", "removed"),
                ("/a-/c", "added"),
                ("/ab", "removed"),
                ("/b", "removed"),
            ],
        )

    def test_links_are_not_followed(self):
        one = made(("mkdir", "/d"), ("symlink", "/d", "/l"), ("write", "/d/f", 0, [1]))
        two = made(("mkdir", "/d"), ("symlink", "/d", "/l"), ("write", "/d/f", 0, [2]))
        self.assertEqual(compared(one, two), [("/d/f", "octets")])

    def test_deep(self):
        self.assertEqual(compared(nested(255), nested(255)), [])
        self.assertEqual(compared(nested(255), nested(253)), [("/n" * 254, "removed"), ("/n" * 255, "removed")])


class Errors(unittest.TestCase):
    def test_wrong_paths(self):
        tree = made(*SOME, *chain_of_links(9))
        before = told(tree)
        errors = {"x": InvalidPath, "/x": NotFound, "/d/f/x": NotDirectory, "/l9": TooManyLinks}
        for path, error in errors.items():
            self.assertRaises(error, compared, tree, FileTree(), path, "/")
            self.assertRaises(error, compared, FileTree(), tree, "/", path)
            for other_path in errors:
                # Both paths are checked first, and then the first one is followed first.
                expected = InvalidPath if "x" in (path, other_path) else error
                self.assertRaises(expected, compared, tree, tree, path, other_path)
        self.assertEqual(told(tree), before)

    def test_each_path_in_its_own_tree(self):
        one = made(("mkdir", "/one"))
        two = made(("mkdir", "/two"))
        self.assertEqual(compared(one, two, "/one", "/two"), [])
        self.assertRaises(NotFound, compared, one, two, "/two", "/one")
        self.assertRaises(NotFound, compared, one, two, "/one", "/one")


if __name__ == "__main__":
    unittest.main()

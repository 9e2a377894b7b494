"""Points 87 and 88: listings, ways and list_tree."""

import unittest

from trees import chain_of_links, full_directory, made, told, word_of_call

from tidemark.errors import InvalidPath, NotDirectory, NotFound, TooManyLinks
from tidemark.files.tree import FileTree
from tidemark.tools.listing import list_tree, ways_from

SOME = [
    ("mkdir", "/d"),
    ("mkdir", "/d/e"),
    ("write", "/d/f", 0, [1, 2, 3]),
    ("symlink", "d/e", "/l"),
    ("link", "/d/f", "/d/a"),
    ("mkdir", "/d/e/deep"),
    ("symlink", "/nowhere", "/d/e/z"),
    ("link", "/d/f", "/Z"),
]

FILE = ("file", 3, 3, 3)


def nested(depth):
    """A tree of directories below each other, deeper than an argument may name."""
    tree = made(("mkdir", "/n"))
    for _ in range(depth - 1):
        made(("mkdir", "/m"), ("rename", "/n", "/m/n"), ("rename", "/m", "/n"), tree=tree)
    return tree


class Listings(unittest.TestCase):
    def test_root(self):
        self.assertEqual(
            list_tree(made(*SOME), "/"),
            [
                ("/", ("directory", 0, 1, 3)),
                ("/Z", FILE),
                ("/d", ("directory", 1, 1, 3)),
                ("/d/a", FILE),
                ("/d/e", ("directory", 2, 1, 2)),
                ("/d/e/deep", ("directory", 5, 1, 0)),
                ("/d/e/z", ("link", 6, 1, 8)),
                ("/d/f", FILE),
                ("/l", ("link", 4, 1, 3)),
            ],
        )

    def test_new_tree(self):
        self.assertEqual(list_tree(FileTree(), "/"), [("/", ("directory", 0, 1, 0))])

    def test_files_and_empty_directories(self):
        tree = made(*SOME)
        self.assertEqual(list_tree(tree, "/d/f"), [("/d/f", FILE)])
        self.assertEqual(list_tree(tree, "/d/e/deep"), [("/d/e/deep", ("directory", 5, 1, 0))])

    def test_through_links(self):
        tree = made(*SOME, ("symlink", "/l", "/k"))
        for path in ("/l", "/k"):
            self.assertEqual(
                list_tree(tree, path),
                [
                    (path, ("directory", 2, 1, 2)),
                    (path + "/deep", ("directory", 5, 1, 0)),
                    (path + "/z", ("link", 6, 1, 8)),
                ],
            )
        self.assertEqual(list_tree(tree, "/l/deep"), [("/l/deep", ("directory", 5, 1, 0))])

    def test_links_are_listed_and_not_followed(self):
        tree = made(("mkdir", "/d"), ("symlink", "/", "/d/up"), ("symlink", ".x", "/d/self"))
        self.assertEqual(
            list_tree(tree, "/d"),
            [
                ("/d", ("directory", 1, 1, 2)),
                ("/d/self", ("link", 3, 1, 2)),
                ("/d/up", ("link", 2, 1, 1)),
            ],
        )

    def test_several_names_below_one_directory(self):
        tree = made(*full_directory("/d", 64))
        listed = list_tree(tree, "/d")
        self.assertEqual(len(listed), 65)
        self.assertEqual(listed[1:], [(f"/d/{name}", ("file", 2, 64, 0)) for name in sorted(f"e{at}" for at in range(64))])

    def test_paths_longer_than_an_argument(self):
        tree = nested(100)
        listed = list_tree(tree, "/n/n")
        self.assertEqual([path for path, status in listed], ["/n" * depth for depth in range(2, 101)])
        self.assertEqual(word_of_call(list_tree, tree, "/n" * 17), "invalidpath")

    def test_as_deep_as_can_be(self):
        tree = nested(255)
        self.assertEqual(len(list_tree(tree, "/")), 256)
        self.assertEqual(ways_from(tree, 0)[-1][0], ("n",) * 255)

    def test_errors(self):
        tree = made(*SOME, *chain_of_links(9))
        for path in ("", "d", "/d/", "//", "/d//e", "/..", "/" + "x" * 33, "/a b"):
            self.assertRaises(InvalidPath, list_tree, tree, path)
        self.assertRaises(NotFound, list_tree, tree, "/x")
        self.assertRaises(NotFound, list_tree, tree, "/d/e/z")
        self.assertRaises(NotDirectory, list_tree, tree, "/d/f/x")
        self.assertRaises(TooManyLinks, list_tree, tree, "/l9")
        self.assertEqual(list_tree(tree, "/l8")[0][1][0], "file")

    def test_tree_and_lists(self):
        tree = made(*SOME)
        before = told(tree)
        list_tree(tree, "/").clear()
        ways_from(tree, 0).clear()
        self.assertEqual(told(tree), before)
        self.assertEqual(len(list_tree(tree, "/")), 9)


class Ways(unittest.TestCase):
    def test_ways(self):
        tree = made(*SOME)
        self.assertEqual(
            ways_from(tree, 1),
            [((), 1), (("a",), 3), (("e",), 2), (("e", "deep"), 5), (("e", "z"), 6), (("f",), 3)],
        )
        self.assertEqual(ways_from(tree, 3), [((), 3)])
        self.assertEqual(ways_from(tree, 4), [((), 4)])
        self.assertEqual(ways_from(tree, 5), [((), 5)])

    def test_order_of_names(self):
        """A name that is a prefix of another one comes first, with all that lies below it."""
        paths = ["/a", "/a/x", "/a-", "/aa", "/B", "/a/y", "/_", "/0"]
        tree = made(*[("mkdir", path) for path in paths])
        self.assertEqual(
            [path for path, status in list_tree(tree, "/")],
            ["/", "/0", "/B", "/_", "/a", "/a/x", "/a/y", "/a-", "/aa"],
        )


if __name__ == "__main__":
    unittest.main()

"""Point 89: usage."""

import unittest

from test_listing import SOME, nested
from trees import chain_of_links, full_directory, made, told

from tidemark.errors import InvalidPath, NotDirectory, NotFound, TooManyLinks
from tidemark.files.tree import FileTree
from tidemark.files.values import tree_values
from tidemark.tools.usage import usage


class Usage(unittest.TestCase):
    def test_new_tree(self):
        self.assertEqual(usage(FileTree(), "/"), (0, 1, 0, 0, 1))

    def test_each_kind(self):
        tree = made(*SOME)
        # A directory has a key more if it has entries, a link has two keys, and so has a small file.
        self.assertEqual(usage(tree, "/d/f"), (1, 0, 0, 3, 2))
        self.assertEqual(usage(tree, "/d/e/deep"), (0, 1, 0, 0, 1))
        self.assertEqual(usage(tree, "/l"), (0, 2, 1, 0, 2 + 1 + 2))
        self.assertEqual(usage(tree, "/d"), (1, 3, 1, 3, 2 + 2 + 2 + 1 + 2))
        self.assertEqual(usage(tree, "/"), (1, 4, 2, 3, len(tree_values(tree))))

    def test_several_names_count_once(self):
        tree = made(*full_directory("/d", 64), ("write", "/d/e5", 0, [1] * 449))
        self.assertEqual(usage(tree, "/d")[:4], (1, 1, 0, 449))
        self.assertEqual(usage(tree, "/d")[4], 3 + 2)
        tree = made(("symlink", "x", "/a"), ("link", "/a", "/b"), ("write", "/f", 0, [1]), ("link", "/f", "/g"))
        self.assertEqual(usage(tree, "/"), (1, 1, 1, 1, 6))

    def test_zeros_in_whole_chunks(self):
        tree = made(("write", "/f", 0, [0] * 448), ("truncate", "/f", 28672))
        self.assertEqual(usage(tree, "/f"), (1, 0, 0, 28672, 1))
        made(("write", "/f", 448 * 9, [0, 1]), ("write", "/f", 28671, [5]), tree=tree)
        self.assertEqual(usage(tree, "/f"), (1, 0, 0, 28672, 3))
        made(("write", "/g", 0, [0] * 447 + [1, 1]), tree=tree)
        self.assertEqual(usage(tree, "/g"), (1, 0, 0, 449, 3))

    def test_files_without_names_do_not_count(self):
        tree = made(("write", "/f", 0, [1]), ("open_file", "/f"), ("unlink", "/f"))
        self.assertEqual(usage(tree, "/"), (0, 1, 0, 0, 1))

    def test_deep(self):
        self.assertEqual(usage(nested(255), "/n/n"), (0, 254, 0, 0, 253 * 2 + 1))

    def test_errors(self):
        tree = made(*SOME, *chain_of_links(9))
        before = told(tree)
        for path in ("", "d", "/d/", "//", "/."):
            self.assertRaises(InvalidPath, usage, tree, path)
        self.assertRaises(NotFound, usage, tree, "/x")
        self.assertRaises(NotDirectory, usage, tree, "/d/f/x")
        self.assertRaises(TooManyLinks, usage, tree, "/l9")
        self.assertEqual(told(tree), before)


if __name__ == "__main__":
    unittest.main()

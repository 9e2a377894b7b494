"""Points 66 to 68, and the names that lead to a directory."""

import unittest

from trees import chain_of_links, made, word_of_call

from tidemark.files.node import Node
from tidemark.files.tree import FileTree
from tidemark.files.walking import entry_of, follow, names_to, place_of


def some_tree():
    """Directories 1 /d and 2 /d/e, the file 3 /d/f, and links."""
    return made(
        ("mkdir", "/d"),
        ("mkdir", "/d/e"),
        ("write", "/d/f", 0, [1]),
        ("symlink", "/d", "/to_d"),
        ("symlink", "d/e", "/to_e"),
        ("symlink", "f", "/d/to_f"),
        ("symlink", "/to_d/to_f", "/d/e/far"),
        ("symlink", "nowhere", "/d/lost"),
        ("symlink", "/", "/d/top"),
        ("symlink", "round", "/round"),
        ("symlink", "e/back", "/d/there"),
        ("symlink", "/d/there", "/d/e/back"),
    )


class Following(unittest.TestCase):
    """Point 66."""

    def setUp(self):
        self.tree = some_tree()

    def word(self, path):
        return word_of_call(follow, self.tree, path)

    def test_plain_paths(self):
        for path, number in (("/", 0), ("/d", 1), ("/d/e", 2), ("/d/f", 3)):
            self.assertEqual(follow(self.tree, path), number)

    def test_links(self):
        for path, number in (("/to_d", 1), ("/to_d/e", 2), ("/to_e", 2), ("/d/to_f", 3), ("/to_d/to_f", 3)):
            self.assertEqual(follow(self.tree, path), number, path)
        # A relative target goes on from the directory of the entry, an absolute one from the root.
        for path, number in (("/d/e/far", 3), ("/to_e/far", 3), ("/d/top", 0), ("/d/top/d/top/to_e", 2)):
            self.assertEqual(follow(self.tree, path), number, path)

    def test_not_found(self):
        for path in ("/x", "/d/x", "/d/e/x/y", "/d/lost", "/d/lost/x", "/to_d/x", "/d/top/x"):
            self.assertEqual(self.word(path), "notfound", path)

    def test_not_directory(self):
        for path in ("/d/f/x", "/d/f/x/y", "/d/to_f/x", "/to_d/f/x"):
            self.assertEqual(self.word(path), "notdirectory", path)

    def test_round(self):
        for path in ("/round", "/round/x", "/d/there", "/d/e/back/f"):
            self.assertEqual(self.word(path), "toomanylinks", path)

    def test_8_and_9_links(self):
        tree = made(*chain_of_links(10))
        self.assertEqual(follow(tree, "/l8"), 1)
        for path in ("/l9", "/l10"):
            self.assertEqual(word_of_call(follow, tree, path), "toomanylinks")
        made(("mkdir", "/d"), ("symlink", "/", "/d/up"), tree=tree)
        self.assertEqual(follow(tree, "/d/up" * 8), 0)
        self.assertEqual(follow(tree, "/d/up" * 8 + "/f"), 1)
        self.assertEqual(word_of_call(follow, tree, "/d/up" * 9), "toomanylinks")
        self.assertEqual(word_of_call(follow, tree, "/d/up" * 8 + "/l1"), "toomanylinks")

    def test_missing_entry_behind_8_links(self):
        tree = made(("mkdir", "/d"), ("symlink", "/", "/d/up"))
        self.assertEqual(word_of_call(follow, tree, "/d/up" * 8 + "/x"), "notfound")
        made(("symlink", "x", "/d/lost"), tree=tree)
        self.assertEqual(word_of_call(follow, tree, "/d/up" * 8 + "/d/lost"), "toomanylinks")

    def test_paths_longer_than_arguments(self):
        tree = FileTree()
        for depth in range(30):
            parent = len(tree.nodes) - 1
            tree.nodes[parent] = Node("directory", (("n" * 32, depth + 1),))
            tree.nodes[depth + 1] = Node("directory", ())
        path = ("/" + "n" * 32) * 30
        self.assertEqual(follow(tree, path), 30)
        self.assertEqual(place_of(tree, path), (29, "n" * 32))
        self.assertEqual(entry_of(tree, path), (29, "n" * 32, 30))
        self.assertEqual(names_to(tree, 30), ["n" * 32] * 30)


class Places(unittest.TestCase):
    """Point 67."""

    def setUp(self):
        self.tree = some_tree()

    def test_directories_and_names(self):
        for path, place in (
            ("/d", (0, "d")),
            ("/x", (0, "x")),
            ("/d/x", (1, "x")),
            ("/to_d/x", (1, "x")),
            ("/to_e/far", (2, "far")),
            ("/d/top/x", (0, "x")),
            ("/round", (0, "round")),
        ):
            self.assertEqual(place_of(self.tree, path), place, path)

    def test_errors(self):
        for path, word in (
            ("/", "rootfixed"),
            ("/x/y", "notfound"),
            ("/d/lost/y", "notfound"),
            ("/d/f/y", "notdirectory"),
            ("/d/to_f/y", "notdirectory"),
            ("/d/f/y/z", "notdirectory"),
            ("/round/y", "toomanylinks"),
        ):
            self.assertEqual(word_of_call(place_of, self.tree, path), word, path)

    def test_8_and_9_links(self):
        tree = made(("mkdir", "/d"), ("symlink", "/", "/d/up"))
        self.assertEqual(place_of(tree, "/d/up" * 9), (1, "up"))
        self.assertEqual(word_of_call(place_of, tree, "/d/up" * 9 + "/x"), "toomanylinks")


class Entries(unittest.TestCase):
    """Point 68."""

    def setUp(self):
        self.tree = some_tree()

    def test_entries(self):
        for path, entry in (
            ("/d", (0, "d", 1)),
            ("/d/f", (1, "f", 3)),
            ("/to_d/f", (1, "f", 3)),
            ("/to_d", (0, "to_d", 4)),
            ("/to_e/far", (2, "far", 7)),
            ("/d/lost", (1, "lost", 8)),
            ("/round", (0, "round", 10)),
        ):
            self.assertEqual(entry_of(self.tree, path), entry, path)

    def test_errors(self):
        for path, word in (
            ("/", "rootfixed"),
            ("/x", "notfound"),
            ("/x/y", "notfound"),
            ("/d/lost/y", "notfound"),
            ("/d/f/y", "notdirectory"),
            ("/round/y", "toomanylinks"),
        ):
            self.assertEqual(word_of_call(entry_of, self.tree, path), word, path)


class NamesTo(unittest.TestCase):
    def test_directories(self):
        tree = some_tree()
        self.assertEqual(names_to(tree, 0), [])
        self.assertEqual(names_to(tree, 1), ["d"])
        self.assertEqual(names_to(tree, 2), ["d", "e"])

    def test_behind_a_rename(self):
        tree = made(("mkdir", "/a"), ("mkdir", "/a/b"), ("mkdir", "/a/b/c"), ("mkdir", "/z"))
        made(("rename", "/a/b", "/z/y"), tree=tree)
        self.assertEqual([names_to(tree, number) for number in range(5)], [[], ["a"], ["z", "y"], ["z", "y", "c"], ["z"]])
        made(("rename", "/z", "/a/z"), tree=tree)
        self.assertEqual(names_to(tree, 3), ["a", "z", "y", "c"])

    def test_new_lists_and_nothing_changes(self):
        tree = some_tree()
        names_to(tree, 2).clear()
        self.assertEqual(names_to(tree, 2), ["d", "e"])


if __name__ == "__main__":
    unittest.main()

"""Points 94, 96 and 97: remove_tree."""

import unittest

from samples import whole
from test_listing import SOME, nested
from trees import chain_of_links, made, told, word_of_call
from volumes import flash, state_of

from tidemark.errors import (
    InvalidPath,
    NotDirectory,
    NotFound,
    PowerCut,
    ReadOnly,
    RootFixed,
    TooManyLinks,
    VolumeDown,
    WornOut,
)
from tidemark.files.operations import make_operation
from tidemark.files.values import tree_values
from tidemark.tools.listing import list_tree
from tidemark.tools.removing import removals, remove_tree
from tidemark.volume.mounting import mount_flash, peek_flash


def some_volume():
    chip, volume = flash(32, 32)
    for operation in SOME:
        volume.perform(operation)
    volume.sync()
    return chip, volume


class Removals(unittest.TestCase):
    def test_directory(self):
        self.assertEqual(
            removals(made(*SOME), "/d"),
            [
                ("unlink", "/d/f"),
                ("unlink", "/d/e/z"),
                ("rmdir", "/d/e/deep"),
                ("rmdir", "/d/e"),
                ("unlink", "/d/a"),
                ("rmdir", "/d"),
            ],
        )

    def test_single_nodes(self):
        tree = made(*SOME)
        for path, word in (("/Z", "unlink"), ("/d/f", "unlink"), ("/l", "unlink"), ("/d/e/deep", "rmdir")):
            self.assertEqual(removals(tree, path), [(word, path)])

    def test_paths_lead_through_no_link(self):
        tree = made(*SOME, ("symlink", "/l", "/k"))
        self.assertEqual(removals(tree, "/k/deep"), [("rmdir", "/d/e/deep")])
        self.assertEqual(removals(tree, "/l/z"), [("unlink", "/d/e/z")])
        self.assertEqual(removals(tree, "/k"), [("unlink", "/k")])

    def test_long_paths(self):
        tree = nested(60)
        operations = removals(tree, "/n/n")
        self.assertEqual(operations, [("rmdir", "/n" * depth) for depth in range(60, 1, -1)])
        for operation in operations:
            make_operation(tree, operation)
        self.assertEqual([path for path, status in list_tree(tree, "/")], ["/", "/n"])

    def test_errors(self):
        tree = made(*SOME, *chain_of_links(9))
        before = told(tree)
        self.assertRaises(RootFixed, removals, tree, "/")
        self.assertRaises(NotFound, removals, tree, "/x")
        self.assertRaises(NotFound, removals, tree, "/x/y")
        self.assertRaises(NotDirectory, removals, tree, "/d/f/x")
        self.assertRaises(TooManyLinks, removals, tree, "/l9/x")
        self.assertEqual(told(tree), before)


class RemoveTree(unittest.TestCase):
    def test_counts_and_changes(self):
        chip, volume = some_volume()
        before = len(volume.accepted_changes())
        self.assertEqual(remove_tree(volume, "/d"), 6)
        self.assertEqual(len(volume.accepted_changes()), before + 6)
        self.assertEqual(volume.readdir("/"), ["Z", "l"])
        self.assertEqual(volume.stat("/Z"), ("file", 3, 1, 3))
        self.assertEqual(volume.read("/Z", 0, 9), [1, 2, 3])
        self.assertEqual(sorted(volume.tree_now().nodes), [0, 3, 4])

    def test_single_nodes(self):
        _, volume = some_volume()
        for path, left in (("/Z", ["d", "l"]), ("/l", ["d"]), ("/d/e/deep", ["d"]), ("/d/f", ["d"])):
            self.assertEqual(remove_tree(volume, path), 1)
            self.assertEqual(volume.readdir("/"), left)
        self.assertEqual(volume.stat("/d/a"), ("file", 3, 1, 3))
        self.assertEqual(remove_tree(volume, "/d/a"), 1)
        self.assertNotIn(3, volume.tree_now().nodes)

    def test_last_name_is_not_followed(self):
        _, volume = some_volume()
        volume.symlink("/d", "/dir")
        self.assertEqual(remove_tree(volume, "/dir"), 1)
        self.assertEqual(volume.readdir("/"), ["Z", "d", "l"])
        self.assertEqual(remove_tree(volume, "/l/deep"), 1)
        self.assertEqual(volume.readdir("/d/e"), ["z"])

    def test_names_inside_and_outside(self):
        _, volume = flash()
        volume.mkdir("/d")
        volume.write("/d/a", 0, [1])
        volume.link("/d/a", "/d/b")
        volume.symlink("x", "/d/s")
        volume.link("/d/s", "/t")
        self.assertEqual(remove_tree(volume, "/d"), 4)
        self.assertEqual(told(volume.tree_now())[0], {0: ("directory", (("t", 3),), 1), 3: ("link", "x", 1)})

    def test_open_files(self):
        chip, volume = some_volume()
        volume.unlink("/Z")
        volume.open_file("/d/f")
        self.assertEqual(remove_tree(volume, "/d"), 6)
        self.assertEqual(volume.stat_at(0), ("file", 3, 0, 3))
        volume.write_at(0, 3, [4])
        self.assertEqual(volume.read_at(0, 0, 9), [1, 2, 3, 4])
        volume.sync()
        self.assertEqual(sorted(volume.tree_now().nodes), [0, 3, 4])
        volume.close_file(0)
        self.assertEqual(sorted(volume.tree_now().nodes), [0, 4])
        self.assertEqual(sorted(mount_flash(chip).tree_now().nodes), [0, 4])

    def test_deep_directories(self):
        _, volume = flash(48, 32)
        for depth in range(1, 41):
            volume.carry_out(("mkdir", "/n" * depth))
        self.assertEqual(remove_tree(volume, "/n/n"), 39)
        self.assertEqual(volume.tree_now().nodes[0].body, (("n", 1),))
        self.assertEqual(remove_tree(volume, "/n"), 1)
        self.assertEqual(volume.readdir("/"), [])

    def test_errors_change_nothing(self):
        chip, volume = some_volume()
        for operation in chain_of_links(9):
            volume.perform(("symlink", "Z", "/f") if operation[0] == "write" else operation)
        before = state_of(volume), whole(chip)
        for path in ("", "d", "/d/", "//", "/.", "/" + "x" * 33, "/n" * 17):
            self.assertRaises(InvalidPath, remove_tree, volume, path)
        self.assertRaises(RootFixed, remove_tree, volume, "/")
        self.assertRaises(NotFound, remove_tree, volume, "/x")
        self.assertRaises(NotDirectory, remove_tree, volume, "/d/f/x")
        self.assertRaises(TooManyLinks, remove_tree, volume, "/l9/x")
        self.assertEqual((state_of(volume), whole(chip)), before)

    def test_read_only_volume(self):
        chip, volume = some_volume()
        found = peek_flash(chip)
        before = told(found.tree_now())
        for path in ("/d", "/", "/x", "/d/f/x"):
            self.assertRaises(ReadOnly, remove_tree, found, path)
        self.assertRaises(InvalidPath, remove_tree, found, "d")
        self.assertEqual(told(found.tree_now()), before)

    def test_volume_that_is_down(self):
        chip, volume = some_volume()
        mount_flash(chip)
        for path in ("/d", "/", "x"):
            self.assertRaises(VolumeDown, remove_tree, volume, path)

    def test_cut_in_the_middle(self):
        chip, volume = some_volume()
        tree = volume.tree_now()
        states = [tree_values(tree)]
        for operation in removals(volume.tree_now(), "/d"):
            make_operation(tree, operation)
            states.append(tree_values(tree))
        chip.plan(["ok"] * 4 + ["during"], [False])
        self.assertRaises(PowerCut, remove_tree, volume, "/d")
        self.assertFalse(volume.is_up)
        self.assertIn(len(volume.accepted_changes()) - len(SOME), range(1, 7))
        self.assertIn(tree_values(mount_flash(chip).tree_now()), states)

    def test_worn_out_in_the_middle(self):
        """What was done before the third block became bad stays."""
        chip, volume = some_volume()
        volume.write("/d/big", 0, [1] * 5376)
        volume.sync()
        for at in range(400):
            if len(volume.wear()[1]) == 3:
                break
            chip.plan(["fail"], [])
            volume.write("/d/big", 0, [at % 255 + 1] * 5376)
            volume.sync()
        # A chip of 32 blocks may have 3 bad ones, so one failure more is too much.
        chip.plan(["fail"], [])
        done = len(volume.accepted_changes())
        word = word_of_call(remove_tree, volume, "/d")
        self.assertEqual((word, volume.is_up, len(volume.wear()[1])), ("wornout", True, 4))
        self.assertGreater(len(volume.accepted_changes()), done)
        self.assertIn("a", volume.readdir("/d"))
        self.assertNotIn("f", volume.readdir("/d"))
        self.assertRaises(WornOut, remove_tree, volume, "/d/a")


if __name__ == "__main__":
    unittest.main()

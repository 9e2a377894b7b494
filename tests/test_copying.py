"""Points 95 to 97: copy_tree."""

import unittest

from samples import whole
from stores import formatted
from test_listing import SOME, nested
from trees import chain_of_links, full_directory, made, told, word_of_call
from volumes import flash, state_of, volume_on

from tidemark.errors import (
    AlreadyExists,
    DirectoryFull,
    InvalidPath,
    NoSpace,
    NotDirectory,
    NotFound,
    PowerCut,
    ReadOnly,
    RootFixed,
    TooManyFiles,
    TooManyLinks,
    VolumeDown,
)
from tidemark.files.operations import make_operation
from tidemark.files.values import tree_values
from tidemark.tools.comparing import differences
from tidemark.tools.copying import copies, copy_tree
from tidemark.tools.listing import ways_from
from tidemark.tools.removing import remove_tree
from tidemark.volume.mounting import mount_flash, peek_flash
from tidemark.volume.volume import Volume


def octets(many):
    return [at * 7 % 256 for at in range(many)]


def with_file(many):
    """A tree with a file of this many octets."""
    tree = made(("write", "/f", 0, []))
    for start in range(0, many, 5376):
        made(("write", "/f", start, octets(many)[start : start + 5376]), tree=tree)
    return tree


def partition(tree, path):
    """The ways below a path, grouped by the nodes to which they lead."""
    groups = {}
    directory = dict(tree.nodes[0].body)[path[1:]]
    for way, number in ways_from(tree, directory):
        groups.setdefault(number, []).append(way)
    return sorted(groups.values())


def some_volume():
    chip, volume = flash(48, 32)
    for operation in SOME:
        volume.perform(operation)
    volume.sync()
    return chip, volume


class Copies(unittest.TestCase):
    def test_files_of_all_lengths(self):
        for many, starts in (
            (0, [0]),
            (1, [0]),
            (5375, [0]),
            (5376, [0]),
            (5377, [0, 5376]),
            (10752, [0, 5376]),
            (10753, [0, 5376, 10752]),
            (16200, [0, 5376, 10752, 16128]),
            (28672, [0, 5376, 10752, 16128, 21504, 26880]),
        ):
            tree = with_file(many)
            expected = [("write", "/g", start, octets(many)[start : start + 5376]) for start in starts]
            self.assertEqual(copies(tree, "/f", "/g"), expected)
            for operation in expected:
                make_operation(tree, operation)
            self.assertEqual(tree.nodes[2], tree.nodes[1])

    def test_directory(self):
        self.assertEqual(
            copies(made(*SOME), "/d", "/c"),
            [
                ("mkdir", "/c"),
                ("write", "/c/a", 0, [1, 2, 3]),
                ("mkdir", "/c/e"),
                ("mkdir", "/c/e/deep"),
                ("symlink", "/nowhere", "/c/e/z"),
                ("link", "/c/a", "/c/f"),
            ],
        )

    def test_links_with_several_names(self):
        tree = made(("mkdir", "/d"), ("symlink", "x", "/d/a"), ("link", "/d/a", "/d/b"), ("link", "/d/a", "/out"))
        self.assertEqual(
            copies(tree, "/d", "/c"), [("mkdir", "/c"), ("symlink", "x", "/c/a"), ("link", "/c/a", "/c/b")]
        )
        # From the root on, the third name lies within.
        self.assertEqual(copies(tree, "/", "/c")[-1], ("link", "/c/d/a", "/c/out"))

    def test_large_files_are_linked_to_their_first_copy(self):
        tree = with_file(5377)
        made(("link", "/f", "/g"), tree=tree)
        self.assertEqual(
            [(operation[0], operation[1]) for operation in copies(tree, "/", "/c")],
            [("mkdir", "/c"), ("write", "/c/f"), ("write", "/c/f"), ("link", "/c/f")],
        )

    def test_source_through_links(self):
        tree = made(*SOME, ("symlink", "/l", "/k"), ("symlink", "/d/f", "/lf"))
        self.assertEqual(copies(tree, "/k", "/c")[:2], [("mkdir", "/c"), ("mkdir", "/c/deep")])
        self.assertEqual(copies(tree, "/lf", "/c"), [("write", "/c", 0, [1, 2, 3])])
        # So a link itself is copied only as a part of a directory.
        self.assertEqual(copies(tree, "/d/e", "/c")[-1], ("symlink", "/nowhere", "/c/z"))

    def test_place_through_links(self):
        tree = made(*SOME)
        self.assertEqual(copies(tree, "/Z", "/l/c"), [("write", "/d/e/c", 0, [1, 2, 3])])
        self.assertEqual(copies(tree, "/d/e/deep", "/l/c"), [("mkdir", "/d/e/c")])

    def test_into_the_source_itself(self):
        tree = made(*SOME)
        before = [way for way, number in ways_from(tree, 1)]
        for operation in copies(tree, "/d", "/d/e/c"):
            make_operation(tree, operation)
        copy = tree.entry(2, "c")
        self.assertEqual([way for way, number in ways_from(tree, copy)], before)

    def test_root(self):
        tree = made(*SOME)
        found = copies(tree, "/", "/d/c")
        self.assertEqual(found[:2], [("mkdir", "/d/c"), ("write", "/d/c/Z", 0, [1, 2, 3])])
        self.assertEqual(len(found), 9)
        self.assertRaises(RootFixed, copies, tree, "/d", "/")

    def test_long_paths(self):
        tree = nested(50)
        self.assertEqual(copies(tree, "/n", "/n/n/c"), [("mkdir", "/n/n/c" + "/n" * depth) for depth in range(50)])

    def test_errors_and_their_order(self):
        tree = made(*SOME, *chain_of_links(9))
        before = told(tree)
        sources = {"/x": NotFound, "/d/f/x": NotDirectory, "/l9": TooManyLinks, "/d/e/z": NotFound}
        targets = {
            "/": RootFixed,
            "/x/y": NotFound,
            "/d/f/x": NotDirectory,
            "/d/f/x/y": NotDirectory,
            "/l9/x": TooManyLinks,
            "/Z": AlreadyExists,
            "/l": AlreadyExists,
            "/d/e/z": AlreadyExists,
        }
        for source, error in sources.items():
            for target in [*targets, "/new"]:
                self.assertRaises(error, copies, tree, source, target)
        for target, error in targets.items():
            for source in ("/", "/d", "/Z"):
                self.assertRaises(error, copies, tree, source, target)
        self.assertEqual(told(tree), before)

    def test_lists_are_new(self):
        tree = made(*SOME)
        copies(tree, "/Z", "/c")[0][3].clear()
        self.assertEqual(tree.nodes[3].body, (1, 2, 3))


class CopyTree(unittest.TestCase):
    def test_what_it_leaves(self):
        chip, volume = some_volume()
        before = volume.tree_now()
        accepted = len(volume.accepted_changes())
        self.assertEqual(copy_tree(volume, "/d", "/c"), 6)
        self.assertEqual(len(volume.accepted_changes()), accepted + 6)
        after = volume.tree_now()
        self.assertEqual(differences(before, "/d", other=after, other_path="/c"), [])
        self.assertEqual(partition(after, "/c"), partition(before, "/d"))
        self.assertEqual(differences(before, "/", other=after, other_path="/")[:1], [("/c", "added")])
        for number in before.nodes:
            if number != 0:
                self.assertEqual(after.nodes[number], before.nodes[number])
        self.assertEqual(after.nodes[0].body, tuple(sorted([*before.nodes[0].body, ("c", 7)])))
        volume.sync()
        self.assertEqual(told(mount_flash(chip).tree_now()), told(after))

    def test_root_into_itself(self):
        _, volume = some_volume()
        before = volume.tree_now()
        self.assertEqual(copy_tree(volume, "/", "/d/e/c"), 9)
        after = volume.tree_now()
        self.assertEqual(differences(before, "/", other=after, other_path="/d/e/c"), [])
        self.assertEqual(remove_tree(volume, "/l/c"), 9)
        self.assertEqual(tree_values(volume.tree_now()), tree_values(before))

    def test_large_file(self):
        _, volume = flash(48, 32)
        for start in range(0, 16200, 5376):
            volume.write("/f", start, octets(16200)[start : start + 5376])
        self.assertEqual(copy_tree(volume, "/f", "/g"), 4)
        self.assertEqual(volume.read("/g", 0, 28672), octets(16200))

    def test_handles_stay(self):
        _, volume = some_volume()
        volume.open_file("/Z")
        copy_tree(volume, "/", "/c")
        self.assertEqual(volume.tree_now().handles, [3] + [None] * 15)

    def test_errors_of_arguments(self):
        chip, volume = some_volume()
        before = state_of(volume), whole(chip)
        for source, target in (("", "/c"), ("/d", "c"), ("x", "y"), ("/d/", "/"), ("/x", "/c/"), ("/d", "/n" * 17)):
            self.assertRaises(InvalidPath, copy_tree, volume, source, target)
        for source, target, word in (
            ("/x", "/", "notfound"),
            ("/d", "/", "rootfixed"),
            ("/d", "/Z", "alreadyexists"),
            ("/d", "/Z/x", "notdirectory"),
            ("/x", "/Z", "notfound"),
        ):
            self.assertEqual(word_of_call(copy_tree, volume, source, target), word)
        self.assertEqual((state_of(volume), whole(chip)), before)

    def test_read_only_volume(self):
        chip, _ = some_volume()
        found = peek_flash(chip)
        before = told(found.tree_now())
        for source, target in (("/d", "/c"), ("/x", "/c"), ("/d", "/"), ("/d", "/Z")):
            self.assertRaises(ReadOnly, copy_tree, found, source, target)
        for source, target in (("d", "/c"), ("/d", "c")):
            self.assertRaises(InvalidPath, copy_tree, found, source, target)
        self.assertEqual(told(found.tree_now()), before)

    def test_volume_that_is_down(self):
        chip, volume = some_volume()
        mount_flash(chip)
        for source, target in (("/d", "/c"), ("x", "/c"), ("/d", "/")):
            self.assertRaises(VolumeDown, copy_tree, volume, source, target)


class Unfinished(unittest.TestCase):
    """Point 96: what was done before an error stays."""

    def test_full_directory(self):
        _, volume = flash(48, 32)
        for operation in [*full_directory("/full", 64), ("mkdir", "/d"), ("mkdir", "/d/e")]:
            volume.perform(operation)
        before = state_of(volume)
        self.assertRaises(DirectoryFull, copy_tree, volume, "/d", "/full/c")
        self.assertEqual(state_of(volume), before)
        # Behind one removal there is room for one copy.
        volume.unlink("/full/e7")
        self.assertEqual(copy_tree(volume, "/d", "/full/c"), 2)
        self.assertRaises(DirectoryFull, copy_tree, volume, "/d", "/full/b")

    def test_no_number(self):
        tree = made(("mkdir", "/d"), ("mkdir", "/many"), *[("mkdir", f"/many/{at}") for at in range(60)])
        made(*[("symlink", "x", f"/d/{at:02}") for at in range(64)], tree=tree)
        made(*copies(tree, "/d", "/e"), tree=tree)
        before = tree.copied()
        operations = copies(tree, "/d", "/g")
        self.assertRaises(TooManyFiles, made, *operations, tree=tree)
        self.assertEqual((len(before.nodes), len(tree.nodes)), (192, 256))
        added = [("/g", "added")] + [(f"/g/{at:02}", "added") for at in range(63)]
        self.assertEqual(differences(before, "/", other=tree, other_path="/"), added)
        # No volume has room for so many nodes, so this one is told that it has them.
        volume = Volume(volume_on(formatted())[0], tree, (24, 16))
        self.assertRaises(TooManyFiles, copy_tree, volume, "/d", "/h")
        self.assertEqual((told(volume.tree_now()), volume.accepted_changes()), (told(tree), []))

    def test_no_room(self):
        chip, volume = flash(24, 32)
        volume.mkdir("/d")
        for name in "abc":
            volume.write("/d/" + name, 0, [7] * (448 * 12))
        volume.write("/d/b", 448 * 12, [7] * (448 * 12))
        before = len(volume.accepted_changes())
        self.assertRaises(NoSpace, copy_tree, volume, "/d", "/c")
        self.assertTrue(volume.is_up)
        made_before = len(volume.accepted_changes()) - before
        operations = copies(volume.tree_now(), "/d", "/x")
        self.assertTrue(1 < made_before < len(operations), made_before)
        self.assertEqual(volume.readdir("/c")[0], "a")
        volume.sync()
        expected = told(volume.tree_now())
        self.assertEqual(told(mount_flash(chip).tree_now()), expected)

    def test_cut_in_the_middle(self):
        chip, volume = some_volume()
        volume.write("/d/big", 0, octets(5376))
        volume.sync()
        before = volume.tree_now()
        states = [tree_values(before)]
        tree = before.copied()
        for operation in copies(before, "/d", "/c"):
            make_operation(tree, operation)
            states.append(tree_values(tree))
        shown = []
        for deed in range(30):
            for fate in ("before", "during"):
                again = chip.copied()
                found = mount_flash(again)
                again.plan(["ok"] * deed + [fate], [False] * 3)
                word = word_of_call(copy_tree, found, "/d", "/c")
                if word is None:
                    continue
                self.assertEqual(word, "powercut")
                values = tree_values(mount_flash(again).tree_now())
                self.assertIn(values, states)
                shown.append(states.index(values))
        self.assertEqual(shown, sorted(shown))
        self.assertGreater(shown[-1], shown[0])

    def test_power_cut(self):
        chip, volume = some_volume()
        volume.write("/d/big", 0, octets(5376))
        chip.plan(["before"], [])
        self.assertRaises(PowerCut, copy_tree, volume, "/d", "/c")
        self.assertFalse(volume.is_up)


if __name__ == "__main__":
    unittest.main()

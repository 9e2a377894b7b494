"""Points 80 to 84 and 86: what a volume checks, accepts and tells."""

import unittest

from samples import whole
from stores import Numbers
from trees import DrawnOperations, full_directory, told, word_of_call
from volumes import new_volume, prefixes, read_only, run_out, state_of, volume_on

from tidemark.errors import NoSpace, PowerCut, ReadOnly, TidemarkError, VolumeDown, WornOut
from tidemark.files.tree import FileTree
from tidemark.files.values import changes_between, tree_of, tree_values
from tidemark.index.counting import pages_counted
from tidemark.space.limits import page_limit
from tidemark.store.starting import format_chip
from tidemark.volume.volume import Volume

# Calls that change files, with right arguments, and those that do not.
CHANGING = [
    ("mkdir", "/n"),
    ("rmdir", "/d"),
    ("write", "/n", 0, [1]),
    ("truncate", "/f", 1),
    ("rename", "/f", "/n"),
    ("link", "/f", "/n"),
    ("unlink", "/f"),
    ("symlink", "f", "/n"),
    ("write_at", 0, 0, [9]),
    ("resize", 0, 1),
]
READING = [
    ("read", "/f", 0, 9),
    ("readlink", "/l"),
    ("readdir", "/"),
    ("stat", "/f"),
    ("lstat", "/l"),
    ("open_file", "/f"),
    ("close_file", 0),
    ("read_at", 0, 0, 9),
    ("stat_at", 0),
]
WRONG = [
    ("mkdir", "a", "invalidpath"),
    ("rmdir", "a", "invalidpath"),
    ("write", "/f", -1, [0] * 6000, "invalidoffset"),
    ("read", "/f", 0, -1, "invalidlength"),
    ("truncate", "/f", -1, "invalidlength"),
    ("rename", "/f", "a", "invalidpath"),
    ("link", "a", "/f", "invalidpath"),
    ("unlink", "a", "invalidpath"),
    ("symlink", "a/", "b", "invalidtarget"),
    ("readlink", "a", "invalidpath"),
    ("readdir", "a", "invalidpath"),
    ("stat", "a", "invalidpath"),
    ("lstat", "a", "invalidpath"),
    ("open_file", "a", "invalidpath"),
    ("close_file", 16, "notopen"),
    ("read_at", 16, -1, 0, "notopen"),
    ("write_at", 0, 0, [0] * 5377, "toomanyoctets"),
    ("resize", 0, 28673, "invalidlength"),
    ("stat_at", -1, "notopen"),
]


def some_volume(blocks=24, pages=16):
    """A volume with the file /f, the directory /d, the link /l, and the handle 0."""
    store, volume = new_volume(blocks, pages)
    volume.write("/f", 0, [1, 2, 3])
    volume.mkdir("/d")
    volume.symlink("f", "/l")
    volume.open_file("/f")
    return store, volume


def call(volume, name, *arguments):
    return getattr(volume, name)(*arguments)


def grow(volume, path, octets):
    """Write this many octets into a file, as many operations as this takes."""
    for start in range(0, octets, 5376):
        volume.write(path, start, [1] * min(5376, octets - start))


class Operations(unittest.TestCase):
    """The methods of the operations, perform and carry_out."""

    def test_methods_and_perform(self):
        results = []
        for way in range(3):
            _, volume = some_volume()
            found = []
            for operation in [("read", "/f", 0, 9), ("stat", "/f"), ("lstat", "/l"), ("readdir", "/"), ("readlink", "/l")]:
                found.append(self.made(volume, way, operation))
            for operation in [("mkdir", "/n"), ("rmdir", "/d"), ("write", "/g", 2, [1]), ("truncate", "/g", 1)]:
                found.append(self.made(volume, way, operation))
            for operation in [("rename", "/g", "/h"), ("link", "/h", "/i"), ("unlink", "/h"), ("symlink", "x", "/y")]:
                found.append(self.made(volume, way, operation))
            for operation in [("open_file", "/i"), ("write_at", 1, 1, [7]), ("read_at", 1, 0, 9), ("resize", 1, 1)]:
                found.append(self.made(volume, way, operation))
            for operation in [("stat_at", 1), ("close_file", 1)]:
                found.append(self.made(volume, way, operation))
            results.append((found, state_of(volume)))
        self.assertEqual(results[0], results[1])
        self.assertEqual(results[0], results[2])
        found = results[0][0]
        self.assertEqual(found[:5], [[1, 2, 3], ("file", 1, 1, 3), ("link", 3, 1, 1), ["d", "f", "l"], "f"])
        self.assertEqual(found[5:13], [None] * 8)
        self.assertEqual(found[13:], [1, None, [0, 7], None, ("file", 2, 1, 1), None])

    def made(self, volume, way, operation):
        if way == 0:
            return call(volume, *operation)
        return volume.perform(operation) if way == 1 else volume.carry_out(operation)

    def test_errors_of_arguments_and_calls(self):
        for *operation, word in WRONG:
            _, volume = some_volume()
            before = state_of(volume)
            self.assertEqual(word_of_call(call, volume, *operation), word)
            self.assertEqual(word_of_call(volume.perform, tuple(operation)), word)
            self.assertEqual(state_of(volume), before)
        _, volume = some_volume()
        self.assertEqual(word_of_call(volume.mkdir, "/f/x"), "notdirectory")
        self.assertEqual(word_of_call(volume.close_file, 1), "notopen")

    def test_carry_out_takes_longer_paths(self):
        _, volume = new_volume(48, 32)
        for depth in range(1, 18):
            self.assertIsNone(volume.carry_out(("mkdir", "/n" * depth)))
        self.assertEqual(word_of_call(volume.perform, ("stat", "/n" * 17)), "invalidpath")
        self.assertEqual(volume.carry_out(("stat", "/n" * 17)), ("directory", 17, 1, 0))
        self.assertEqual(word_of_call(volume.carry_out, ("mkdir", "/n" * 17)), "alreadyexists")

    def test_lists_of_the_caller(self):
        _, volume = new_volume()
        octets = [1, 2, 3]
        volume.write("/a", 0, octets)
        octets.clear()
        volume.read("/a", 0, 9).clear()
        volume.readdir("/").clear()
        self.assertEqual((volume.read("/a", 0, 9), volume.readdir("/")), ([1, 2, 3], ["a"]))

    def test_tree_of_the_constructor_stays(self):
        store, volume = new_volume()
        tree = FileTree()
        volume = Volume(store, tree, (24, 16))
        volume.mkdir("/d")
        self.assertEqual(told(tree), told(FileTree()))


class UpAndDown(unittest.TestCase):
    """Points 80 to 82."""

    def check_down(self, volume):
        self.assertIs(volume.is_up, False)
        self.assertIs(volume.is_read_only, False)
        for operation in CHANGING + READING:
            self.assertRaises(VolumeDown, call, volume, *operation)
            self.assertRaises(VolumeDown, volume.perform, operation)
            self.assertRaises(VolumeDown, volume.carry_out, operation)
        for *operation, _ in WRONG:
            self.assertRaises(VolumeDown, call, volume, *operation)
        for operations in ([], [("stat", "/")], [("x",)]):
            self.assertRaises(VolumeDown, volume.batch, operations)
        for method in (volume.sync, volume.room, volume.wear, volume.tree_now):
            self.assertRaises(VolumeDown, method)
        self.assertIsNone(volume.check_writable())
        self.assertIsInstance(volume.accepted_changes(), list)
        self.assertIsInstance(volume.synced_count(), int)

    def test_up(self):
        _, volume = some_volume()
        self.assertIs(volume.is_up, True)
        self.assertIs(volume.is_read_only, False)
        self.assertIsNone(volume.check_writable())

    def test_later_formats_and_mounts(self):
        for fates in ([], ["before"]):
            for later in (format_chip, volume_on):
                store, volume = some_volume()
                count = len(volume.accepted_changes())
                store.chip.plan(fates, [])
                word_of_call(later, store.chip)
                self.check_down(volume)
                self.assertEqual(len(volume.accepted_changes()), count)

    def test_mount_of_another_chip(self):
        store, volume = some_volume()
        volume_on(store.chip.copied())
        self.assertTrue(volume.is_up)

    def test_power_cut_while_changes_are_accepted(self):
        for fate in ("before", "during"):
            store, volume = some_volume()
            store.sync()
            store.chip.plan(["ok", fate], [])
            self.assertRaises(PowerCut, grow, volume, "/f", 5376)
            self.check_down(volume)
            self.assertEqual(len(volume.accepted_changes()), 4)

    def test_no_block_left_while_changes_are_accepted(self):
        store, volume = some_volume()
        run_out(store)
        self.assertRaises(WornOut, grow, volume, "/f", 5376)
        self.check_down(volume)
        self.assertEqual(len(volume.accepted_changes()), 4)

    def test_sync_that_fails(self):
        store, volume = some_volume()
        volume.sync()
        volume.mkdir("/n")
        store.chip.plan(["during"], [])
        self.assertRaises(PowerCut, volume.sync)
        self.check_down(volume)
        self.assertEqual((len(volume.accepted_changes()), volume.synced_count()), (4, 3))
        store, volume = some_volume()
        run_out(store)
        self.assertRaises(WornOut, volume.sync)
        self.check_down(volume)
        self.assertEqual(volume.synced_count(), 0)

    def test_errors_that_leave_it_up(self):
        store, volume = some_volume()
        store.bad = [20, 21, 22]
        self.assertRaises(WornOut, volume.mkdir, "/n")
        self.assertRaises(TidemarkError, volume.mkdir, "/d")
        self.assertTrue(volume.is_up)
        self.assertEqual(volume.readdir("/"), ["d", "f", "l"])


class ReadOnlyVolumes(unittest.TestCase):
    """Points 80 and 82."""

    def volume(self):
        store, volume = some_volume()
        volume.sync()
        found = read_only(store.chip)
        found.open_file("/f")
        return found

    def test_neither_up_nor_down(self):
        volume = self.volume()
        self.assertIs(volume.is_up, False)
        self.assertIs(volume.is_read_only, True)
        self.assertRaises(ReadOnly, volume.check_writable)

    def test_changing_calls(self):
        volume = self.volume()
        before = told(volume.tree_now())
        for operation in CHANGING:
            self.assertRaises(ReadOnly, call, volume, *operation)
            self.assertRaises(ReadOnly, volume.perform, operation)
            self.assertRaises(ReadOnly, volume.carry_out, operation)
        for method in (volume.sync, volume.wear):
            self.assertRaises(ReadOnly, method)
        self.assertEqual(told(volume.tree_now()), before)

    def test_errors_of_arguments_come_first(self):
        for *operation, word in WRONG:
            self.assertEqual(word_of_call(call, self.volume(), *operation), word)

    def test_errors_of_the_call_come_later(self):
        volume = self.volume()
        for operation in (("mkdir", "/"), ("rmdir", "/x"), ("write", "/d", 0, [1]), ("write_at", 9, 0, [1]), ("resize", 3, 0)):
            self.assertRaises(ReadOnly, call, volume, *operation)
        # So it is for a write that would change nothing.
        self.assertRaises(ReadOnly, volume.write, "/f", 0, [])

    def test_reading_calls(self):
        volume = self.volume()
        self.assertEqual(volume.read("/l", 0, 9), [1, 2, 3])
        self.assertEqual((volume.readlink("/l"), volume.readdir("/")), ("f", ["d", "f", "l"]))
        self.assertEqual((volume.stat("/l"), volume.lstat("/l")), (("file", 1, 1, 3), ("link", 3, 1, 1)))
        self.assertEqual(volume.open_file("/f"), 1)
        self.assertEqual((volume.read_at(1, 1, 1), volume.stat_at(1)), ([2], ("file", 1, 1, 3)))
        self.assertIsNone(volume.close_file(1))
        self.assertEqual(word_of_call(volume.read_at, 1, 0, 1), "notopen")
        self.assertEqual(word_of_call(volume.stat, "/x"), "notfound")
        self.assertEqual(volume.room()[1], page_limit(24, 16))
        self.assertEqual((volume.accepted_changes(), volume.synced_count()), ([], 0))
        self.assertEqual(volume.tree_now().handles[:2], [1, None])

    def test_whatever_happens_to_the_chip(self):
        store, volume = some_volume()
        volume.sync()
        found = read_only(store.chip)
        volume.unlink("/f")
        format_chip(store.chip)
        store.chip.plan(["before"], [])
        store.chip.erase(0)
        self.assertEqual(found.read("/f", 0, 9), [1, 2, 3])
        self.assertIs(found.is_read_only, True)


class Accepting(unittest.TestCase):
    """Points 83 and 86."""

    def test_changes_that_are_accepted(self):
        store, volume = new_volume()
        expected = []
        for operation in (("write", "/f", 0, [1, 2]), ("mkdir", "/d"), ("rename", "/f", "/d/f"), ("unlink", "/d/f")):
            before = volume.tree_now()
            volume.perform(operation)
            expected.append(changes_between(before, volume.tree_now()))
            self.assertEqual(volume.accepted_changes(), expected)
            values = {key: store.look(key) for key in store.keys_shown()}
            self.assertEqual(values, tree_values(volume.tree_now()))
        self.assertEqual(expected[1], [(0, (2, 0, 1, 0, 0, 6)), (1, (1, 100, 2, 1, 102, 1)), (8192, (2, 0, 1, 0, 0, 0))])

    def test_operations_without_changes(self):
        store, volume = some_volume()
        store.bad = [20, 21, 22]
        before = whole(store.chip)
        count = len(volume.accepted_changes())
        for operation in [row for row in READING if row[0] != "close_file"] + [
            ("close_file", 1),
            ("write", "/f", 9, []),
            ("truncate", "/f", 3),
            ("rename", "/f", "/f"),
            ("write_at", 0, 0, [1, 2]),
            ("resize", 0, 3),
        ]:
            call(volume, *operation)
        self.assertEqual((len(volume.accepted_changes()), whole(store.chip)), (count, before))

    def test_errors_change_nothing(self):
        store, volume = some_volume()
        before = state_of(volume), whole(store.chip)
        for operation in (("mkdir", "/f"), ("rmdir", "/f"), ("write", "/f", 28672, [1]), ("unlink", "/x")):
            self.assertRaises(TidemarkError, call, volume, *operation)
        self.assertEqual((state_of(volume), whole(store.chip)), before)

    def test_no_space(self):
        # The root has 2 keys below 4 nodes, and the file, with 35 chunks, 36 keys below 3 more nodes.
        store, volume = new_volume()
        grow(volume, "/f", 35 * 448)
        self.assertEqual(volume.room(), (52, 52))
        before = state_of(volume), whole(store.chip)
        self.assertRaises(NoSpace, volume.write, "/f", 35 * 448, [1])
        self.assertRaises(NoSpace, volume.mkdir, "/d")
        self.assertRaises(NoSpace, volume.batch, [("mkdir", "/d")])
        self.assertEqual((state_of(volume), whole(store.chip)), before)
        self.assertTrue(volume.is_up)
        # Zeros in whole chunks need no key, and other octets in place of octets need none either.
        volume.truncate("/f", 28672)
        volume.write("/f", 0, [7, 7])
        volume.unlink("/f")
        self.assertEqual(volume.room(), (1 + 8, 52))

    def test_worn_out(self):
        store, volume = some_volume()
        grow(volume, "/f", 5376)
        volume.unlink("/f")
        store.bad = [20, 21]
        volume.mkdir("/n")
        store.bad = [20, 21, 22]
        before = state_of(volume), whole(store.chip)
        for operation in (("rmdir", "/n"), ("mkdir", "/o"), ("write_at", 0, 0, [0])):
            self.assertRaises(WornOut, call, volume, *operation)
        # The errors of the operation come first, and a close that would remove the file is refused.
        self.assertEqual(word_of_call(volume.mkdir, "/n"), "alreadyexists")
        self.assertRaises(WornOut, volume.close_file, 0)
        self.assertEqual((state_of(volume), whole(store.chip)), before)
        self.assertEqual(volume.stat_at(0), ("file", 1, 0, 5376))
        self.assertTrue(volume.is_up)
        volume.sync()
        self.assertEqual(volume.synced_count(), len(volume.accepted_changes()))

    def test_worn_out_before_no_space(self):
        store, volume = new_volume()
        grow(volume, "/f", 35 * 448)
        store.bad = [20, 21, 22]
        self.assertRaises(WornOut, volume.mkdir, "/d")

    def test_counts_behind_syncs(self):
        _, volume = new_volume()
        self.assertEqual((volume.accepted_changes(), volume.synced_count()), ([], 0))
        volume.mkdir("/a")
        volume.mkdir("/b")
        self.assertEqual(volume.synced_count(), 0)
        self.assertIsNone(volume.sync())
        self.assertEqual(volume.synced_count(), 2)
        volume.mkdir("/c")
        self.assertEqual((len(volume.accepted_changes()), volume.synced_count()), (3, 2))
        volume.sync()
        self.assertEqual(volume.synced_count(), 3)

    def test_lists_of_their_own(self):
        store, volume = some_volume()
        accepted = volume.accepted_changes()
        accepted[0].clear()
        accepted.clear()
        volume.tree_now().nodes.clear()
        volume.tree_now().handles.clear()
        recorded = list(store.recorded)
        erases, bad = volume.wear()
        erases.clear()
        bad.append(3)
        self.assertEqual(len(volume.accepted_changes()[0]), 4)
        self.assertEqual(volume.readdir("/"), ["d", "f", "l"])
        self.assertEqual(volume.stat_at(0), ("file", 1, 1, 3))
        self.assertEqual(volume.wear(), (recorded, []))

    def test_room_and_wear(self):
        store, volume = some_volume(32, 16)
        keys = list(tree_values(volume.tree_now()))
        self.assertEqual(volume.room(), (pages_counted(keys), 112))
        self.assertEqual(new_volume()[1].room(), (1 + 8, 52))
        store.bad.append(9)
        store.recorded[4] = 77
        erases, bad = volume.wear()
        self.assertEqual((erases, bad, erases[4]), (store.recorded, [9], 77))

    def test_tree_now(self):
        store, volume = some_volume()
        tree = volume.tree_now()
        self.assertIsInstance(tree, FileTree)
        self.assertEqual(sorted(tree.nodes), [0, 1, 2, 3])
        self.assertEqual(tree.handles[:2], [1, None])

    def test_nameless_files_are_gone_behind_a_mount(self):
        store, volume = some_volume()
        volume.unlink("/f")
        volume.sync()
        _, again = volume_on(store.chip)
        self.assertEqual(sorted(again.tree_now().nodes), [0, 2, 3])
        self.assertEqual(again.tree_now().handles, [None] * 16)

    def test_256_nodes(self):
        _, volume = new_volume(48, 32)
        for operation in full_directory("/d", 64):
            volume.perform(operation)
        self.assertEqual(word_of_call(volume.mkdir, "/d/x"), "directoryfull")


class Promise(unittest.TestCase):
    """Points 2 and 84: what the next mount shows behind cuts."""

    def test_runs_with_cuts(self):
        cuts = 0
        for seed in range(12):
            numbers = Numbers(seed)
            drawn = DrawnOperations(seed)
            store, volume = new_volume()
            start = tree_values(volume.tree_now())
            for _ in range(8):
                fates = ["ok"] * numbers.below(25) + [numbers.one_of(["before", "during"])]
                store.chip.plan(fates, [numbers.below(2) == 0 for _ in range(90)])
                self.work(volume, drawn, numbers)
                if volume.is_up:
                    store.chip.plan([], [])
                    continue
                cuts += 1
                accepted = prefixes(start, volume)
                store, volume = volume_on(store.chip)
                start = tree_values(volume.tree_now())
                self.assertIn(start, accepted)
                self.assertEqual(told(tree_of(start)), told(volume.tree_now()))
                self.assertEqual(store.chip.refused, 0)
        self.assertGreater(cuts, 40)

    def work(self, volume, drawn, numbers):
        for _ in range(60):
            try:
                if numbers.below(9) == 0:
                    volume.sync()
                else:
                    volume.perform(drawn.operation())
            except PowerCut:
                return
            except TidemarkError:
                pass


if __name__ == "__main__":
    unittest.main()

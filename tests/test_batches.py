"""Point 85: batches."""

import unittest

from samples import whole
from trees import told, word_of_call
from volumes import new_volume, read_only, run_out, state_of

from tidemark.errors import (
    InvalidBatch,
    InvalidOperation,
    NoSpace,
    OperationRefused,
    PowerCut,
    ReadOnly,
    TooMuch,
    WornOut,
    word_of,
)
from tidemark.files.values import changes_between
from tidemark.store.starting import mount_store

STAT = ("stat", "/")


def raised(volume, operations):
    """The error of a batch, which must change nothing."""
    before = state_of(volume)
    try:
        volume.batch(operations)
    except (InvalidBatch, InvalidOperation, OperationRefused, TooMuch, NoSpace, WornOut) as error:
        assert state_of(volume) == before
        return error
    return None


class Batches(unittest.TestCase):
    def test_results_in_their_order(self):
        store, volume = new_volume()
        operations = [
            ("mkdir", "/d"),
            ("write", "/d/f", 0, [1, 2]),
            ("read", "/d/f", 0, 9),
            ("open_file", "/d/f"),
            ("write_at", 0, 2, [3]),
            ("stat_at", 0),
            ("unlink", "/d/f"),
            ("readdir", "/d"),
            ("read_at", 0, 1, 9),
        ]
        kept = list(operations)
        results = [None, None, [1, 2], 0, None, ("file", 2, 1, 3), None, [], [2, 3]]
        self.assertEqual(volume.batch(operations), results)
        self.assertEqual(operations, kept)
        self.assertEqual(volume.stat_at(0), ("file", 2, 0, 3))

    def test_one_change(self):
        _, volume = new_volume()
        before = volume.tree_now()
        volume.batch([("mkdir", "/a"), ("mkdir", "/b"), ("rmdir", "/a")])
        self.assertEqual(volume.accepted_changes(), [changes_between(before, volume.tree_now())])
        self.assertEqual(volume.readdir("/"), ["b"])

    def test_1_and_16_operations(self):
        _, volume = new_volume()
        self.assertEqual(volume.batch([STAT]), [("directory", 0, 1, 0)])
        self.assertEqual(volume.batch([STAT] * 16), [("directory", 0, 1, 0)] * 16)
        for operations in ([], [STAT] * 17, [("x",)] * 17, [("mkdir", "a")] * 30):
            self.assertIsInstance(raised(volume, operations), InvalidBatch)

    def test_operations_that_are_not_one(self):
        _, volume = new_volume()
        for wrong in (
            ("chmod", "/"),
            ("sync",),
            ("batch", []),
            ("mkdir", "a"),
            ("symlink", "a/", "/b"),
            ("write", "/a", -1, []),
            ("write", "/a", 0, [0] * 5377),
            ("read", "/a", 0, 28673),
            ("stat_at", 16),
            ("close_file", -1),
        ):
            for index in (0, 1, 15):
                operations = [("rmdir", "/x")] * index + [wrong] + [("rename", "b", "b")]
                error = raised(volume, operations[:16])
                self.assertEqual((type(error), error.index), (InvalidOperation, index))

    def test_operations_that_are_refused(self):
        _, volume = new_volume()
        volume.write("/f", 0, [1])
        for index, operations, word in (
            (0, [("rmdir", "/f"), ("mkdir", "/f")], "notdirectory"),
            (1, [("mkdir", "/d"), ("mkdir", "/d")], "alreadyexists"),
            (2, [("mkdir", "/d"), ("open_file", "/f"), ("close_file", 1)], "notopen"),
            (1, [("unlink", "/f"), ("read", "/f", 0, 1), ("stat", "/x")], "notfound"),
            (0, [("write", "/f", 28672, [1])], "filetoolarge"),
        ):
            error = raised(volume, operations)
            self.assertEqual((type(error), error.index, error.word), (OperationRefused, index, word))
            self.assertEqual(word_of(error), f"operation {index}: {word}")

    def test_operations_see_those_before(self):
        _, volume = new_volume()
        self.assertEqual(volume.batch([("write", "/a", 0, [1]), ("rename", "/a", "/b"), ("read", "/b", 0, 1)])[2], [1])

    def test_20_and_21_values(self):
        _, volume = new_volume(48, 32)
        # The root has 2 values; each file has 1, and more with its chunks.
        files = [("write", f"/f{at}", 0, []) for at in range(16)]
        self.assertIsNone(raised(volume, files))
        volume = new_volume(48, 32)[1]
        eighteen = [("write", "/a", 0, [1] * 5376), ("write", "/a", 5376, [1] * 2240)]
        self.assertIsInstance(raised(volume, eighteen + [("mkdir", "/d")]), TooMuch)
        self.assertIsNone(raised(volume, eighteen))
        self.assertEqual(len(volume.accepted_changes()[0]), 20)
        volume.truncate("/a", 0)
        self.assertIsInstance(raised(volume, [("write", "/a", 0, [1] * 5376), ("write", "/a", 5376, [1] * 4000)]), TooMuch)

    def test_keys_that_are_removed_do_not_count(self):
        _, volume = new_volume(48, 32)
        volume.write("/a", 0, [1] * 5376)
        volume.write("/a", 5376, [1] * 5376)
        volume.sync()
        volume.write("/b", 0, [1] * 5376)
        self.assertIsNone(raised(volume, [("unlink", "/a"), ("unlink", "/b"), ("write", "/c", 0, [1] * 5376)]))
        changes = volume.accepted_changes()[-1]
        self.assertGreater(len(changes), 20)
        self.assertEqual(volume.readdir("/"), ["c"])

    def test_worn_out_and_no_space(self):
        store, volume = new_volume()
        store.bad = [20, 21, 22]
        self.assertIsInstance(raised(volume, [("mkdir", "/d")]), WornOut)
        self.assertEqual(volume.batch([STAT]), [("directory", 0, 1, 0)])
        self.assertEqual(volume.batch([("mkdir", "/d"), ("rmdir", "/d")]), [None, None])
        big = [("write", "/a", 0, [1] * 5376), ("write", "/a", 5376, [1] * 4000)]
        self.assertIsInstance(raised(volume, big), TooMuch)
        store.bad = []
        for path in ("/a", "/b"):
            volume.write(path, 0, [1] * 5376)
        self.assertIsInstance(raised(volume, [("write", "/c", 0, [1] * 5376)]), NoSpace)
        store.bad = [20, 21, 22]
        self.assertIsInstance(raised(volume, [("write", "/c", 0, [1] * 5376)]), WornOut)

    def test_intermediate_space_does_not_count(self):
        _, volume = new_volume()
        for path in ("/a", "/b"):
            volume.write(path, 0, [1] * 5376)
        operations = [("write", "/c", 0, [1] * 5376), ("unlink", "/a")]
        self.assertIsNone(raised(volume, operations))

    def test_handles_behind_a_batch(self):
        _, volume = new_volume()
        volume.write("/f", 0, [1])
        volume.open_file("/f")
        error = raised(volume, [("open_file", "/f"), ("close_file", 0), ("mkdir", "/f")])
        self.assertEqual((error.index, volume.tree_now().handles[:2]), (2, [1, None]))
        self.assertEqual(volume.batch([("open_file", "/f"), ("close_file", 0)]), [1, None])
        self.assertEqual(volume.tree_now().handles[:2], [None, 1])

    def test_read_only(self):
        store, volume = new_volume()
        found = read_only(store.chip)
        self.assertRaises(InvalidBatch, found.batch, [])
        self.assertRaises(InvalidOperation, found.batch, [("stat", "a")])
        for operations in ([STAT], [("mkdir", "/d")], [("rmdir", "/x")]):
            self.assertRaises(ReadOnly, found.batch, operations)

    def test_cut_and_no_block(self):
        store, volume = new_volume()
        store.chip.plan(["ok", "during"], [])
        self.assertRaises(PowerCut, volume.batch, [("write", "/a", 0, [1] * 5376)])
        self.assertEqual((volume.is_up, len(volume.accepted_changes())), (False, 1))
        store, volume = new_volume()
        run_out(store)
        self.assertRaises(WornOut, volume.batch, [("write", "/a", 0, [1] * 5376)])
        self.assertEqual((volume.is_up, len(volume.accepted_changes())), (False, 1))

    def test_whole_or_not_at_all(self):
        for deeds in range(30):
            store, volume = new_volume()
            store.chip.plan(["ok"] * deeds + ["during"], [])
            word_of_call(volume.batch, [("write", "/a", 0, [1] * 4000), ("mkdir", "/d"), ("symlink", "a", "/l")])
            word_of_call(volume.sync)
            store.chip.plan([], [])
            again = mount_store(store.chip, lambda values: [])
            self.assertIn(len(again.keys_shown()), (1, 2 + 10 + 1 + 2))

    def test_nothing_is_programmed_without_changes(self):
        store, volume = new_volume()
        before = whole(store.chip), told(volume.tree_now())
        volume.batch([("mkdir", "/d"), ("rmdir", "/d")])
        self.assertEqual((whole(store.chip), told(volume.tree_now())), before)
        self.assertEqual(volume.accepted_changes(), [])


if __name__ == "__main__":
    unittest.main()

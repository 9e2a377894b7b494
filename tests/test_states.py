"""Points 81 and 82 with volumes that are mounted and peeked at: what is down or read-only, in every method."""

import unittest

from test_volume import CHANGING, READING, WRONG
from trees import told, word_of_call
from volumes import flash

from tidemark.errors import NoVolume, PowerCut, ReadOnly, VolumeDown, WornOut
from tidemark.tools.calls import make_call
from tidemark.tools.copying import copy_tree
from tidemark.tools.removing import remove_tree
from tidemark.volume.mounting import format_flash, mount_flash, peek_flash

# Calls of which each makes many changes, so that a cut falls into them.
CUT_CALLS = [
    ("write", "/f", 0, [7] * 5376),
    ("truncate", "/big", 1),
    ("unlink", "/big"),
    ("rename", "/f", "/big"),
    ("write_at", 0, 0, [7] * 5376),
    ("resize", 1, 0),
    ("batch", [("write", "/n", 0, [7] * 4480)]),
    ("remove_tree", "/big"),
    ("copy_tree", "/big", "/n"),
    ("sync",),
]


def some_flash():
    """A chip with /d, /f, /big and a link /l, and its volume with the handles 0 and 1.

    One more change lets the buffer of the store be flushed."""
    chip, volume = flash(24, 32)
    volume.write("/f", 0, [1, 2, 3])
    volume.mkdir("/d")
    volume.symlink("f", "/l")
    volume.write("/big", 0, [9] * 5000)
    volume.open_file("/f")
    volume.open_file("/big")
    volume.sync()
    volume.mkdir("/unsynced")
    volume.write("/unsynced/f", 0, [1] * 800)
    return chip, volume


class Down(unittest.TestCase):
    def check_down(self, volume, accepted):
        self.assertEqual((volume.is_up, volume.is_read_only), (False, False))
        for operation in CHANGING + READING:
            self.assertRaises(VolumeDown, getattr(volume, operation[0]), *operation[1:])
            self.assertRaises(VolumeDown, volume.perform, operation)
            self.assertRaises(VolumeDown, volume.carry_out, operation)
        for *operation, _ in WRONG:
            self.assertRaises(VolumeDown, getattr(volume, operation[0]), *operation[1:])
            self.assertRaises(VolumeDown, volume.perform, tuple(operation))
        for operations in ([], [("stat", "/")], [("x",)], [("stat", "/")] * 17):
            self.assertRaises(VolumeDown, volume.batch, operations)
        for method in (volume.sync, volume.room, volume.wear, volume.tree_now):
            self.assertRaises(VolumeDown, method)
        for path in ("/f", "/", "f"):
            self.assertRaises(VolumeDown, remove_tree, volume, path)
            self.assertRaises(VolumeDown, copy_tree, volume, path, path)
        self.assertIsNone(volume.check_writable())
        self.assertEqual(len(volume.accepted_changes()), accepted)
        self.assertEqual(volume.synced_count(), 4)

    def test_cuts_in_each_kind_of_call(self):
        for call in CUT_CALLS:
            for fate in ("before", "during"):
                chip, volume = some_flash()
                before = len(volume.accepted_changes())
                chip.plan([fate], [])
                self.assertRaises(PowerCut, make_call, volume, call)
                accepted = len(volume.accepted_changes())
                self.assertEqual(accepted > before, call != ("sync",), call)
                self.check_down(volume, accepted)
                # Power alone does not bring it back.
                chip.switch_on()
                self.check_down(volume, accepted)

    def test_no_block_left(self):
        for call in (("write", "/f", 0, [7] * 5376), ("sync",)):
            chip, volume = some_flash()
            while volume.is_up:
                chip.plan(["fail"] * 200, [])
                try:
                    make_call(volume, call)
                except WornOut:
                    break
            self.check_down(volume, len(volume.accepted_changes()))

    def test_later_formats_and_mounts(self):
        for later in (format_flash, mount_flash):
            for fates in ([], ["before"], ["ok"] * 2 + ["during"], ["fail"] * 40):
                chip, volume = some_flash()
                chip.plan(fates, [])
                word = word_of_call(later, chip)
                self.assertEqual(word, "powercut" if len(fates) in (1, 3) else "wornout" if fates else None)
                self.check_down(volume, 6)

    def test_later_mount_of_no_volume(self):
        chip, volume = some_flash()
        chip.plan(["during"], [])
        word_of_call(format_flash, chip)
        for block in range(24):
            chip.switch_on()
            chip.erase(block)
        self.assertRaises(NoVolume, mount_flash, chip)
        self.check_down(volume, 6)

    def test_lists_of_a_volume_that_is_down(self):
        chip, volume = some_flash()
        mount_flash(chip)
        volume.accepted_changes()[0].clear()
        self.assertEqual(len(volume.accepted_changes()[0]), 4)


class ReadOnlyVolumes(unittest.TestCase):
    def peeked(self):
        chip, volume = some_flash()
        found = peek_flash(chip)
        found.open_file("/f")
        return chip, volume, found

    def test_changing_calls(self):
        _, _, found = self.peeked()
        before = told(found.tree_now())
        for operation in CHANGING:
            self.assertRaises(ReadOnly, getattr(found, operation[0]), *operation[1:])
            self.assertRaises(ReadOnly, found.perform, operation)
            self.assertRaises(ReadOnly, found.carry_out, operation)
        for operations in ([("stat", "/")], [("mkdir", "/n")], [("mkdir", "/")]):
            self.assertRaises(ReadOnly, found.batch, operations)
        for method in (found.sync, found.wear, found.check_writable):
            self.assertRaises(ReadOnly, method)
        self.assertEqual(told(found.tree_now()), before)
        self.assertEqual((found.is_up, found.is_read_only), (False, True))

    def test_errors_of_arguments_come_first(self):
        _, _, found = self.peeked()
        for *operation, word in WRONG:
            self.assertEqual(word_of_call(getattr(found, operation[0]), *operation[1:]), word)
        self.assertEqual(word_of_call(found.batch, []), "invalidbatch")
        self.assertEqual(word_of_call(found.batch, [("stat", "")]), "invalidoperation")

    def test_reading_calls(self):
        _, _, found = self.peeked()
        self.assertEqual(found.readdir("/"), ["big", "d", "f", "l"])
        self.assertEqual((found.read("/l", 1, 9), found.read_at(0, 0, 1)), ([2, 3], [1]))
        self.assertEqual((found.readlink("/l"), found.lstat("/l")), ("f", ("link", 3, 1, 1)))
        self.assertEqual((found.stat("/l"), found.stat_at(0)), (("file", 1, 1, 3), ("file", 1, 1, 3)))
        self.assertEqual((found.open_file("/big"), found.close_file(0), found.open_file("/big")), (1, None, 0))
        self.assertEqual(found.tree_now().handles[:3], [4, 4, None])
        self.assertEqual((found.accepted_changes(), found.synced_count()), ([], 0))
        self.assertEqual(word_of_call(found.unlink, "/f"), "readonly")
        self.assertEqual(word_of_call(found.read, "/d", 0, 1), "isdirectory")

    def test_room(self):
        chip, volume, found = self.peeked()
        remove_tree(volume, "/unsynced")
        self.assertEqual(found.room(), volume.room())

    def test_whatever_happens_to_the_chip(self):
        chip, volume, found = self.peeked()
        before = told(found.tree_now())
        volume.unlink("/f")
        volume.write("/big", 0, [1] * 5000)
        volume.sync()
        self.assertEqual(told(found.tree_now()), before)
        again = mount_flash(chip)
        remove_tree(again, "/big")
        again.sync()
        format_flash(chip)
        chip.plan(["before"], [])
        word_of_call(mount_flash, chip)
        self.assertEqual(told(found.tree_now()), before)
        self.assertEqual((found.read("/f", 0, 9), found.read_at(0, 0, 9)), ([1, 2, 3], [1, 2, 3]))
        self.assertEqual((found.is_up, found.is_read_only), (False, True))


if __name__ == "__main__":
    unittest.main()

"""The calls of make_call (the heading tidemark/tools/calls.py, point 105)."""

import unittest

from test_volume import CHANGING, READING, WRONG, some_volume
from trees import told, word_of_call
from volumes import answer_of, flash

from tidemark.errors import CallRefused, OperationRefused, PowerCut, ReadOnly, VolumeDown, word_of
from tidemark.files.operations import OPERATIONS
from tidemark.tools.calls import make_call
from tidemark.volume.mounting import mount_flash, peek_flash


class Calls(unittest.TestCase):
    def test_each_operation(self):
        self.assertEqual(sorted({operation[0] for operation in CHANGING + READING}), sorted(OPERATIONS))
        for operation in CHANGING + READING:
            _, volume = some_volume()
            _, other = some_volume()
            expected = answer_of(getattr(other, operation[0]), *operation[1:])
            self.assertEqual(answer_of(make_call, volume, operation), expected)
            self.assertEqual(told(volume.tree_now()), told(other.tree_now()))

    def test_wrong_arguments(self):
        _, volume = some_volume()
        for *operation, word in WRONG:
            self.assertEqual(word_of_call(make_call, volume, tuple(operation)), word)
        self.assertEqual(word_of_call(make_call, volume, ("remove_tree", "d")), "invalidpath")
        self.assertEqual(word_of_call(make_call, volume, ("copy_tree", "/d", "d")), "invalidpath")
        self.assertEqual(word_of_call(make_call, volume, ("batch", [])), "invalidbatch")
        self.assertEqual(word_of_call(make_call, volume, ("stat", "sync")), "invalidpath")

    def test_sync(self):
        _, volume = some_volume()
        self.assertIsNone(make_call(volume, ("sync",)))
        self.assertEqual(volume.synced_count(), 3)

    def test_batch(self):
        _, volume = some_volume()
        operations = [("write", "/g", 0, [1, 2]), ("read", "/g", 1, 9)]
        self.assertEqual(make_call(volume, ("batch", operations)), [None, [2]])
        try:
            make_call(volume, ("batch", [("stat", "/"), ("rmdir", "/g")]))
        except OperationRefused as error:
            self.assertEqual((error.index, error.word, word_of(error)), (1, "notdirectory", "operation 1: notdirectory"))
        else:
            self.fail()

    def test_tools(self):
        _, volume = some_volume()
        self.assertEqual(make_call(volume, ("copy_tree", "/", "/d/c")), 4)
        self.assertEqual(volume.readdir("/d/c"), ["d", "f", "l"])
        self.assertEqual(make_call(volume, ("remove_tree", "/d/c")), 4)
        self.assertEqual(volume.readdir("/d"), [])
        self.assertEqual(word_of_call(make_call, volume, ("remove_tree", "/x")), "notfound")
        self.assertEqual(word_of_call(make_call, volume, ("copy_tree", "/d", "/f")), "alreadyexists")

    def test_volumes_that_are_down_or_read_only(self):
        chip, volume = flash()
        volume.mkdir("/d")
        volume.sync()
        found = peek_flash(chip)
        mount_flash(chip)
        calls = [("mkdir", "/e"), ("sync",), ("batch", [("mkdir", "/e")]), ("remove_tree", "/d"), ("copy_tree", "/d", "/e")]
        for call in calls:
            self.assertRaises(VolumeDown, make_call, volume, call)
            self.assertRaises(ReadOnly, make_call, found, call)
        self.assertEqual(make_call(found, ("readdir", "/")), ["d"])

    def test_cuts(self):
        chip, volume = flash()
        volume.mkdir("/d")
        chip.plan(["before"], [])
        self.assertRaises(PowerCut, make_call, volume, ("sync",))
        self.assertRaises(VolumeDown, make_call, volume, ("sync",))

    def test_arguments_stay(self):
        _, volume = some_volume()
        octets = [1, 2]
        operations = [("write", "/g", 0, octets)]
        make_call(volume, ("batch", operations))
        self.assertEqual((octets, operations), ([1, 2], [("write", "/g", 0, [1, 2])]))
        octets.clear()
        self.assertEqual(volume.read("/g", 0, 9), [1, 2])

    def test_words_of_calls(self):
        self.assertEqual(word_of(CallRefused(3, "operation 1: notfound")), "call 3: operation 1: notfound")


if __name__ == "__main__":
    unittest.main()

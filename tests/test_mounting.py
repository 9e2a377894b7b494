"""Points 80 and 81: format_flash, mount_flash and peek_flash."""

import unittest

from samples import whole
from trees import full_directory, told
from volumes import answer_of, deeds_in, flash, state_of

from tidemark.chip.chip import Chip
from tidemark.errors import NoVolume, PowerCut, WornOut
from tidemark.files.tree import FileTree
from tidemark.volume.mounting import format_flash, mount_flash, peek_flash
from tidemark.volume.volume import Volume

NEW_TREE = told(FileTree())


def planned(fates, chip=None):
    found = Chip(24, 16) if chip is None else chip
    found.plan(fates, [])
    return found


class NewChips(unittest.TestCase):
    def test_mount(self):
        chip = Chip(24, 16)
        before = whole(chip)
        self.assertRaises(NoVolume, mount_flash, chip)
        self.assertEqual(chip.generation, 1)
        chip.generation = 0
        self.assertEqual(whole(chip), before)

    def test_peek(self):
        chip = Chip(24, 16)
        before = whole(chip)
        self.assertRaises(NoVolume, peek_flash, chip)
        self.assertEqual(whole(chip), before)


class Formats(unittest.TestCase):
    def test_returns_nothing(self):
        chip = Chip(24, 16)
        self.assertIsNone(format_flash(chip))
        self.assertEqual((chip.generation, chip.powered), (1, True))

    def test_without_power(self):
        chip = Chip(24, 16)
        chip.powered = False
        format_flash(chip)
        self.assertEqual((chip.powered, chip.refused), (True, 0))
        self.assertEqual(told(mount_flash(chip).tree_now()), NEW_TREE)

    def test_cuts(self):
        twin = Chip(24, 16)
        self.assertEqual(deeds_in(twin, format_flash, twin), 26)
        for deed in range(26):
            for fate in ("before", "during"):
                chip = planned(["ok"] * deed + [fate])
                self.assertRaises(PowerCut, format_flash, chip)
                self.assertEqual((chip.powered, chip.generation), (False, 1))
                # Behind a mark that is cut during its program the format is whole.
                expected = ("done", NEW_TREE) if (deed, fate) == (25, "during") else NoVolume
                self.assertEqual(answer_of(lambda: told(peek_flash(chip).tree_now())), expected)
                format_flash(chip)
                self.assertEqual(told(mount_flash(chip).tree_now()), NEW_TREE)

    def test_too_many_erases_fail(self):
        chip = planned(["ok", "fail", "fail"])
        format_flash(chip)
        self.assertEqual(mount_flash(chip).wear()[1], [1, 2])
        chip = planned(["ok", "fail", "fail", "fail"])
        self.assertRaises(WornOut, format_flash, chip)
        self.assertEqual(chip.generation, 1)
        self.assertRaises(NoVolume, mount_flash, chip)
        self.assertEqual(chip.generation, 2)

    def test_format_of_a_chip_in_use(self):
        chip, volume = flash()
        volume.mkdir("/a")
        volume.sync()
        format_flash(chip)
        self.assertFalse(volume.is_up)
        again = mount_flash(chip)
        self.assertEqual(told(again.tree_now()), NEW_TREE)
        again.mkdir("/b")
        again.sync()
        self.assertEqual(mount_flash(chip).readdir("/"), ["b"])


class Mounts(unittest.TestCase):
    def test_new_volume(self):
        chip, volume = flash()
        self.assertIsInstance(volume, Volume)
        self.assertEqual((volume.is_up, volume.is_read_only), (True, False))
        self.assertEqual(state_of(volume), (NEW_TREE, [], 0, True))
        self.assertEqual(volume.room(), (9, 52))
        self.assertEqual(chip.generation, 2)
        self.assertEqual(volume.wear()[1], [])

    def test_shape(self):
        for shape, limit in (((24, 32), 133), ((32, 16), 112), ((48, 32), 584)):
            chip, volume = flash(*shape)
            self.assertEqual(volume.room(), (9, limit))
            self.assertEqual(peek_flash(chip).room(), (9, limit))
            self.assertEqual(len(volume.wear()[0]), shape[0])

    def test_without_power(self):
        chip, volume = flash()
        volume.mkdir("/a")
        chip.plan(["before"], [])
        self.assertRaises(PowerCut, volume.sync)
        refused = chip.refused
        again = mount_flash(chip)
        self.assertTrue(chip.powered and again.is_up)
        self.assertEqual((again.readdir("/"), chip.refused), ([], refused))

    def test_cuts(self):
        chip, volume = flash()
        volume.mkdir("/a")
        volume.sync()
        twin = chip.copied()
        for deed in range(deeds_in(twin, mount_flash, twin)):
            for fate in ("before", "during"):
                again = chip.copied()
                again.plan(["ok"] * deed + [fate], [False] * 9)
                self.assertRaises(PowerCut, mount_flash, again)
                self.assertEqual(again.generation, chip.generation + 1)
                self.assertEqual(peek_flash(again).readdir("/"), ["a"])
                self.assertEqual(mount_flash(again).readdir("/"), ["a"])

    def test_too_many_erases_fail(self):
        chip, volume = flash()
        volume.mkdir("/a")
        volume.sync()
        chip.plan(["fail"] * 30, [])
        self.assertRaises(WornOut, mount_flash, chip)
        self.assertFalse(volume.is_up)
        self.assertEqual(peek_flash(chip).readdir("/"), ["a"])

    def test_mounted_already(self):
        chip, first = flash()
        first.mkdir("/a")
        first.sync()
        first.mkdir("/lost")
        second = mount_flash(chip)
        self.assertEqual((first.is_up, second.is_up), (False, True))
        self.assertEqual(second.readdir("/"), ["a"])
        second.mkdir("/b")
        second.sync()
        self.assertEqual(mount_flash(chip).readdir("/"), ["a", "b"])
        self.assertFalse(second.is_up)

    def test_behind_a_volume_that_is_down(self):
        chip, volume = flash()
        volume.mkdir("/a")
        chip.plan(["ok", "during"], [])
        self.assertRaises(PowerCut, volume.sync)
        again = mount_flash(chip)
        self.assertEqual((volume.is_up, again.is_up), (False, True))
        self.assertEqual(again.readdir("/"), [])

    def test_two_chips(self):
        one, first = flash()
        two, second = flash(32, 16)
        first.mkdir("/one")
        second.mkdir("/two")
        first.sync()
        second.sync()
        third = mount_flash(two)
        self.assertEqual((first.is_up, second.is_up, third.is_up), (True, False, True))
        format_flash(two)
        self.assertEqual((first.is_up, third.is_up), (True, False))
        self.assertEqual(first.readdir("/"), ["one"])
        self.assertEqual(mount_flash(one).readdir("/"), ["one"])

    def test_copies_of_a_chip(self):
        chip, volume = flash()
        volume.mkdir("/a")
        volume.sync()
        twin = chip.copied()
        again = mount_flash(twin)
        self.assertTrue(volume.is_up and again.is_up)
        again.mkdir("/b")
        again.sync()
        self.assertEqual((volume.readdir("/"), again.readdir("/")), (["a"], ["a", "b"]))


class Handles(unittest.TestCase):
    """Points 76, 79 and 81: open files behind mounts."""

    def open_files(self):
        chip, volume = flash(24, 32)
        volume.write("/f", 0, [1, 2, 3])
        volume.write("/g", 0, [4] * 500)
        volume.link("/g", "/h")
        self.assertEqual([volume.open_file(path) for path in ("/f", "/g", "/h")], [0, 1, 2])
        volume.unlink("/f")
        volume.unlink("/g")
        volume.unlink("/h")
        return chip, volume

    def test_files_without_names_are_read_by_their_handles(self):
        chip, volume = self.open_files()
        volume.sync()
        self.assertEqual(volume.readdir("/"), [])
        self.assertEqual(volume.read_at(0, 0, 9), [1, 2, 3])
        volume.write_at(2, 498, [5, 6, 7])
        self.assertEqual(volume.read_at(1, 497, 9), [4, 5, 6, 7])
        self.assertEqual((volume.stat_at(0), volume.stat_at(1)), (("file", 1, 0, 3), ("file", 2, 0, 501)))
        volume.close_file(1)
        self.assertEqual(sorted(volume.tree_now().nodes), [0, 1, 2])
        volume.close_file(2)
        self.assertEqual(sorted(volume.tree_now().nodes), [0, 1])

    def test_they_are_gone_behind_the_next_mount(self):
        chip, volume = self.open_files()
        volume.write("/k", 0, [9])
        volume.sync()
        for found in (peek_flash(chip), mount_flash(chip)):
            self.assertEqual(found.tree_now().handles, [None] * 16)
            self.assertEqual(sorted(found.tree_now().nodes), [0, 3])
            self.assertEqual(found.read("/k", 0, 9), [9])
            self.assertEqual([answer_of(found.stat_at, handle) for handle in range(16)], [answer_of(found.stat_at, 16)] * 16)

    def test_they_are_gone_behind_a_cut(self):
        chip, volume = self.open_files()
        volume.sync()
        volume.mkdir("/d")
        chip.plan(["before"], [])
        self.assertRaises(PowerCut, volume.sync)
        self.assertEqual(sorted(mount_flash(chip).tree_now().nodes), [0])

    def test_open_files_with_names_stay(self):
        chip, volume = flash()
        volume.write("/f", 0, [1])
        volume.open_file("/f")
        volume.sync()
        again = mount_flash(chip)
        self.assertEqual((again.read("/f", 0, 9), again.tree_now().handles), ([1], [None] * 16))


class Peeks(unittest.TestCase):
    def test_changes_nothing(self):
        chip, volume = flash()
        volume.mkdir("/a")
        chip.plan(["ok", "ok", "during"], [True, False])
        self.assertRaises(PowerCut, volume.sync)
        before = whole(chip)
        chip.plan([], [False])
        self.assertEqual(peek_flash(chip).readdir("/"), [])
        self.assertEqual(chip.looks_left(), [])
        chip.plan([], [True, False])
        self.assertEqual(whole(chip), before)
        peek_flash(chip)
        self.assertEqual(chip.looks_left(), [False])

    def test_a_mounted_volume_stays_up(self):
        chip, volume = flash()
        volume.mkdir("/a")
        found = peek_flash(chip)
        self.assertEqual((volume.is_up, found.readdir("/")), (True, []))
        volume.sync()
        self.assertEqual((found.readdir("/"), peek_flash(chip).readdir("/")), ([], ["a"]))

    def test_shows_what_a_mount_shows(self):
        chip, volume = flash(48, 32)
        for operation in [*full_directory("/d", 64), ("symlink", "/d/e7", "/l"), ("write", "/l", 3, [1] * 5376)]:
            volume.perform(operation)
        volume.sync()
        found = peek_flash(chip)
        self.assertEqual(told(found.tree_now()), told(volume.tree_now()))
        self.assertEqual(told(found.tree_now()), told(mount_flash(chip).tree_now()))

    def test_format_alone(self):
        chip = Chip(24, 16)
        format_flash(chip)
        found = peek_flash(chip)
        self.assertEqual((found.is_up, found.is_read_only), (False, True))
        self.assertEqual(told(found.tree_now()), NEW_TREE)


if __name__ == "__main__":
    unittest.main()

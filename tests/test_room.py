"""Points 31, 33 and 83: the room of volumes that are mounted, and flash that is worn out."""

import unittest

from plain_volume import counted
from samples import whole
from stores import Numbers
from volumes import flash, state_of

from tidemark.errors import FileError, NoSpace, PowerCut, WornOut
from tidemark.files.values import tree_values
from tidemark.tools.copying import copy_tree
from tidemark.tools.removing import remove_tree
from tidemark.volume.mounting import mount_flash, peek_flash

LIMITS = {(24, 16): 52, (24, 32): 133, (32, 16): 112, (32, 32): 266, (48, 16): 264, (48, 32): 584}


def fill(volume):
    """Write files of whole chunks until the volume has no room for one page more; return how many chunks there are."""
    many = 0
    with_room = True
    while with_room:
        for chunks in (12, 4, 1):
            offset = many % 60 * 448
            try:
                volume.write(f"/f{many // 60}", offset, [many % 255 + 1] * (448 * min(chunks, 60 - many % 60)))
                many += min(chunks, 60 - many % 60)
                break
            except NoSpace:
                with_room = chunks != 1
    return many


def wear_out(chip, volume, write):
    """Let programs and erases fail until more blocks are bad than may be; `write` makes a change from a number."""
    for number in range(200):
        if len(volume.wear()[1]) > 2:
            return
        chip.plan(["fail"], [])
        write(number % 250 + 1)
        volume.sync()
    raise AssertionError


class Limits(unittest.TestCase):
    def test_just_below_and_above(self):
        for shape, limit in LIMITS.items():
            chip, volume = flash(*shape)
            fill(volume)
            pages, told = volume.room()
            self.assertEqual((pages, told), (counted(tree_values(volume.tree_now())), limit))
            self.assertLess(limit - pages, 1 + 2 * 2 + 1)
            self.assertTrue(volume.is_up)

    def test_exactly_at_the_limit(self):
        chip, volume = flash()
        # The root has 2 keys and the file 35, and 7 nodes cover them.
        volume.write("/f", 0, [1] * 5376)
        volume.write("/f", 5376, [1] * 5376)
        volume.write("/f", 10752, [1] * (34 * 448 - 10752))
        self.assertEqual(volume.room(), (51, 52))
        volume.write("/f", 34 * 448, [1])
        self.assertEqual(volume.room(), (52, 52))
        before = state_of(volume), whole(chip)
        for refused in (
            lambda: volume.write("/f", 35 * 448, [1]),
            lambda: volume.mkdir("/d"),
            lambda: volume.symlink("x", "/l"),
            lambda: volume.batch([("write", "/f", 35 * 448, [1]), ("stat", "/f")]),
            lambda: copy_tree(volume, "/f", "/g"),
        ):
            self.assertRaises(NoSpace, refused)
            self.assertEqual((state_of(volume), whole(chip)), before)
        # What needs no further page is accepted, such as zeros in whole chunks, and a batch that ends with less.
        volume.write("/f", 35 * 448, [0] * 448)
        volume.write("/f", 34 * 448, [2] * 448)
        volume.batch([("write", "/f", 35 * 448, [1]), ("truncate", "/f", 448)])
        self.assertEqual(volume.room(), (16, 52))
        volume.sync()
        self.assertEqual(mount_flash(chip).room(), (16, 52))

    def test_files_without_names_need_room(self):
        chip, volume = flash()
        fill(volume)
        volume.open_file("/f0")
        volume.truncate("/f0", 26 * 448)
        volume.unlink("/f0")
        pages = volume.room()[0]
        self.assertGreater(pages, 30)
        self.assertRaises(NoSpace, volume.write, "/g", 0, [1] * 5376)
        volume.sync()
        self.assertEqual(peek_flash(chip).room()[0], 9)
        volume.close_file(0)
        self.assertEqual(volume.room()[0], 9)
        volume.write("/g", 0, [1] * 5376)

    def test_full_volumes_stay_in_use(self):
        """A full volume takes writes, syncs, mounts and spare failures without end."""
        for shape in ((24, 16), (24, 32), (33, 17)):
            numbers = Numbers(shape[1])
            chip, volume = flash(*shape)
            chunks = fill(volume)
            failures = shape[0] // 16 + 1
            for step in range(150):
                if step % 40 == 20 and failures:
                    chip.plan(["ok"] * numbers.below(9) + ["fail"], [])
                if numbers.below(9) == 0:
                    volume.sync()
                if numbers.below(12) == 0:
                    volume.sync()
                    volume = mount_flash(chip)
                at = numbers.below(chunks - 11)
                within = min(at % 60, 48)
                path = f"/f{at // 60}"
                if volume.stat(path)[3] >= (within + 11) * 448:
                    volume.write(path, within * 448, [numbers.below(255) + 1] * (numbers.below(11) * 448))
                failures = shape[0] // 16 + 1 - len(volume.wear()[1])
            self.assertTrue(volume.is_up)
            self.assertEqual(chip.refused, 0)


class WornOutFlash(unittest.TestCase):
    def worn(self):
        """A volume with more bad blocks than may be, which still is up."""
        chip, volume = flash()
        volume.write("/f", 0, [1] * 3000)
        volume.mkdir("/d")
        volume.open_file("/f")
        volume.sync()
        wear_out(chip, volume, lambda octet: volume.write("/f", 0, [octet] * 3000))
        return chip, volume

    def test_what_is_refused(self):
        chip, volume = self.worn()
        before = state_of(volume), whole(chip)
        for refused in (
            lambda: volume.mkdir("/n"),
            lambda: volume.rmdir("/d"),
            lambda: volume.write("/f", 0, [77]),
            lambda: volume.truncate("/f", 0),
            lambda: volume.batch([("stat", "/"), ("rmdir", "/d")]),
            lambda: remove_tree(volume, "/f"),
            lambda: copy_tree(volume, "/d", "/e"),
        ):
            self.assertRaises(WornOut, refused)
            self.assertTrue(volume.is_up)
            self.assertEqual((state_of(volume), whole(chip)), before)

    def test_what_is_done(self):
        chip, volume = self.worn()
        self.assertEqual(volume.stat("/f"), ("file", 1, 1, 3000))
        self.assertRaises(FileError, volume.mkdir, "/f")
        self.assertEqual(volume.read("/f", 2999, 9), volume.read_at(0, 2999, 9))
        volume.write("/f", 0, volume.read("/f", 0, 3000))
        self.assertEqual(volume.batch([("open_file", "/f"), ("stat_at", 1)]), [1, ("file", 1, 1, 3000)])
        volume.close_file(0)
        self.assertEqual(volume.tree_now().handles[:2], [None, 1])
        self.assertIsNone(volume.sync())
        expected = volume.read("/f", 0, 3000)
        self.assertEqual(mount_flash(chip).read("/f", 0, 3000), expected)
        self.assertEqual(peek_flash(chip).read("/f", 0, 3000), expected)

    def test_close_that_is_refused(self):
        chip, volume = flash()
        volume.write("/f", 0, [1] * 3000)
        volume.open_file("/f")
        volume.unlink("/f")
        wear_out(chip, volume, lambda octet: volume.write_at(0, 0, [octet] * 3000))
        self.assertRaises(WornOut, volume.close_file, 0)
        self.assertEqual((volume.is_up, volume.stat_at(0)), (True, ("file", 1, 0, 3000)))

    def test_sync_does_not_look_at_bad_blocks(self):
        chip, volume = flash()
        for octet in range(1, 200):
            if len(volume.wear()[1]) == 3:
                break
            # A flush fails each time, and leaves a batch that is not marked yet.
            chip.plan(["fail"], [])
            volume.write("/f", 0, [octet] * 4000)
        self.assertRaises(WornOut, volume.mkdir, "/d")
        expected = volume.read("/f", 0, 2000)
        self.assertIsNone(volume.sync())
        self.assertEqual(volume.synced_count(), len(volume.accepted_changes()))
        self.assertEqual(mount_flash(chip).read("/f", 0, 2000), expected)

    def test_cut_while_worn(self):
        chip, volume = self.worn()
        chip.plan(["during"], [])
        volume.sync()
        self.assertTrue(volume.is_up)
        self.assertRaises(PowerCut, mount_flash, chip)
        self.assertEqual(mount_flash(chip).readdir("/"), ["d", "f"])


if __name__ == "__main__":
    unittest.main()

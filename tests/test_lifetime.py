"""Point 109: lifetimes."""

import unittest

from samples import mark, whole
from stores import Numbers, planted, root_of
from volumes import flash

from tidemark.chip.chip import Chip
from tidemark.errors import InvalidEndurance, NoVolume, PowerCut
from tidemark.explorer.lifetime import lifetime
from tidemark.volume.mounting import format_flash, mount_flash


def with_root(recorded, bad=(), blocks=24):
    """A chip with a root alone, whose index does not even have to be loaded."""
    chip = Chip(blocks, 16)
    chip.program(5, 0, root_of(blocks, {0: 1, 1: 2}, recorded=recorded, bad=bad, tree=(9, 9)))
    chip.program(5, 1, mark())
    return chip


class Lifetimes(unittest.TestCase):
    def test_formatted_chip(self):
        chip = Chip(24, 16)
        format_flash(chip)
        self.assertEqual(lifetime(chip, 1000), ([1] * 24, [], 1, 1, 24 * 1000 - 24 - 17 * 24))

    def test_uneven_blocks(self):
        recorded = {3: 9, 7: 30, 20: 0}
        erases = [recorded.get(block, 1) for block in range(24)]
        sure = 24 * 100 - sum(erases) - 17 * 24
        self.assertEqual(lifetime(with_root(recorded), 100), (erases, [], 0, 30, sure))

    def test_bad_blocks(self):
        recorded = {3: 9, 7: 30, 20: 0}
        erases = [recorded.get(block, 1) for block in range(24)]
        sure = 22 * 100 - (sum(erases) - 30) - 17 * 22
        self.assertEqual(lifetime(with_root(recorded, (7, 20)), 100), (erases, [7, 20], 1, 9, sure))
        self.assertEqual(lifetime(with_root(recorded, (20, 7)), 100)[1], [20, 7])

    def test_all_blocks_bad(self):
        self.assertEqual(lifetime(with_root(3, tuple(range(24))), 100), ([3] * 24, list(range(24)), 0, 0, 0))

    def test_never_negative(self):
        chip = with_root(1)
        for endurance, sure in ((1, 0), (17, 0), (18, 0), (19, 24), (20, 48)):
            self.assertEqual(lifetime(chip, endurance)[4], sure)
        self.assertEqual(lifetime(with_root({4: 1000}), 30)[4], 0)
        self.assertEqual(lifetime(with_root({4: 25}), 20)[4], 24)

    def test_greatest_endurance(self):
        self.assertEqual(lifetime(with_root(1, blocks=48), 1000000)[4], 48 * 1000000 - 48 * 18)
        self.assertEqual(lifetime(with_root(1), 1), ([1] * 24, [], 1, 1, 0))

    def test_wrong_endurance(self):
        for chip in (with_root(1), Chip(24, 16)):
            for endurance in (0, -1, 1000001, 10**9):
                self.assertRaises(InvalidEndurance, lifetime, chip, endurance)

    def test_no_volume(self):
        chip = Chip(24, 16)
        for endurance in (1, 1000000):
            self.assertRaises(NoVolume, lifetime, chip, endurance)
        # A root that does not count tells nothing.
        chip.program(5, 0, root_of(24, {0: 1, 1: 2}))
        self.assertRaises(NoVolume, lifetime, chip, 1)

    def test_index_is_not_loaded(self):
        chip = planted({3: [0, 1]})
        chip.erase(4)
        self.assertRaises(NoVolume, mount_flash, chip)
        self.assertEqual(lifetime(chip, 20)[4], 48)

    def test_standing_root(self):
        chip = with_root(1)
        chip.program(8, 0, root_of(24, {0: 1, 1: 2}, number=6, recorded=2))
        chip.program(8, 1, mark())
        chip.program(8, 2, root_of(24, {0: 1, 1: 2}, number=7, recorded=3))
        self.assertEqual(lifetime(chip, 100)[2:4], (2, 2))

    def test_root_with_fewer_or_more_recorded_erases(self):
        for many in (20, 30):
            chip = Chip(24, 16)
            root = root_of(24, {0: 1, 1: 2}, bad=(2,))
            chip.program(5, 0, root[:6] + ((4,) * many,) + root[7:])
            chip.program(5, 1, mark())
            erases, bad, least, most, sure = lifetime(chip, 100)
            self.assertEqual((erases, bad, least, most), ([4] * many, [2], 4, 4))
            self.assertEqual(sure, 23 * 100 - 4 * (min(many, 24) - 1) - 17 * 23)

    def test_chip_stays(self):
        chip, volume = flash()
        volume.mkdir("/a")
        chip.plan(["during"], [])
        self.assertRaises(PowerCut, volume.sync)
        chip.plan(["fail"], [True, False])
        before = whole(chip)
        erases, bad, _, _, _ = lifetime(chip, 100)
        erases.clear()
        bad.append(3)
        self.assertEqual(chip.looks_left(), [False])
        chip.plan(["fail"], [True, False])
        self.assertEqual(whole(chip), before)
        self.assertEqual(lifetime(chip, 100)[:2], ([chip.erases(block) for block in range(24)], []))

    def test_recorded_erases_of_a_volume(self):
        chip, volume = flash()
        for at in range(30):
            volume.write("/f", 0, [at + 1] * 4000)
            volume.sync()
        recorded, bad = volume.wear()
        volume = mount_flash(chip)
        told = lifetime(chip, 1000)
        self.assertEqual(told[:2], volume.wear())
        self.assertEqual((told[2], told[3]), (min(told[0]), max(told[0])))
        self.assertGreater(sum(told[0]), sum(recorded))


class SureErases(unittest.TestCase):
    def test_no_block_is_erased_more_often_than_the_endurance(self):
        """The sure erases can be made in all, wherever the volume makes them."""
        for seed, endurance in ((1, 40), (2, 25), (3, 60)):
            numbers = Numbers(seed)
            chip, volume = flash()
            volume.write("/still", 0, [7] * 4000)
            volume.sync()
            for _ in range(numbers.below(60)):
                volume = mount_flash(chip)
            erases, bad, least, most, sure = lifetime(chip, endurance)
            before = sum(chip.erases(block) for block in range(24))
            while True:
                twin = chip.copied()
                volume = mount_flash(twin)
                for _ in range(numbers.below(4)):
                    volume.write("/f", 0, [1 + numbers.below(255) for _ in range(1000)])
                volume.sync()
                if sum(twin.erases(block) for block in range(24)) - before > sure:
                    break
                chip = twin
            made = sum(chip.erases(block) for block in range(24)) - before
            self.assertGreater(made, sure - 60)
            self.assertLessEqual(max(chip.erases(block) for block in range(24)), endurance)


if __name__ == "__main__":
    unittest.main()

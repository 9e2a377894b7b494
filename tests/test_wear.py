"""Points 41, 47 and 56 with volumes: no block is erased much more often than another one."""

import unittest

from stores import Numbers
from volumes import flash

from tidemark.errors import PowerCut
from tidemark.volume.mounting import mount_flash

# How far the recorded erases of blocks that are not bad may differ, beside the number of bad blocks.
MOST_APART = 17


class EvenWear(unittest.TestCase):
    def check_wear(self, volume):
        recorded, bad = volume.wear()
        good = [many for block, many in enumerate(recorded) if block not in bad]
        self.assertLessEqual(max(good) - min(good), MOST_APART + len(bad))
        return max(good) - min(good)

    def run_mounts(self, shape, fates, mounts, octets=4480):
        """Mount a chip on which most files never change, and return how far the wear differed at most."""
        chip, volume = flash(*shape)
        for at in range(2):
            volume.write(f"/still{at}", 0, [at + 1] * octets)
        volume.sync()
        numbers = Numbers(mounts)
        apart = 0
        for mount in range(mounts):
            chip.plan(fates(mount), [mount % 2 == 0] * 20)
            try:
                volume = mount_flash(chip)
                volume.write("/f", 0, [mount % 256] * numbers.below(900))
                volume.sync()
                apart = max(apart, self.check_wear(volume))
            except PowerCut:
                pass
        chip.plan([], [])
        volume = mount_flash(chip)
        self.assertEqual(volume.read("/still1", 0, octets), [2] * octets)
        self.check_wear(volume)
        recorded, _ = volume.wear()
        for block in range(shape[0]):
            self.assertLessEqual(recorded[block], chip.erases(block))
        return apart

    def test_many_mounts(self):
        for shape in ((24, 16), (33, 17)):
            self.assertEqual(self.run_mounts(shape, lambda mount: [], 300), MOST_APART)

    def test_every_erase_is_recorded(self):
        chip, volume = flash()
        for _ in range(40):
            volume.write("/f", 0, [1, 2, 3])
            volume.sync()
            volume = mount_flash(chip)
        self.assertEqual(volume.wear()[0], [chip.erases(block) for block in range(24)])

    def test_failures(self):
        failing = {50: 1, 90: 7}
        apart = self.run_mounts(
            (24, 16), lambda mount: ["ok"] * failing[mount] + ["fail"] if mount in failing else [], 300
        )
        self.assertGreater(apart, MOST_APART - 3)

    def test_cuts(self):
        apart = self.run_mounts(
            (24, 16), lambda mount: ["ok"] * (mount % 23) + ["before", "during"][mount % 2 :][:1] * (mount % 3 == 0), 500
        )
        self.assertGreater(apart, MOST_APART - 6)

    def test_many_syncs(self):
        chip, volume = flash()
        volume.write("/still", 0, [1] * 5376)
        apart = 0
        for at in range(6000):
            volume.write("/f", at % 3, [at % 256])
            volume.sync()
            apart = max(apart, self.check_wear(volume))
        self.assertGreater(apart, 10)
        self.assertTrue(volume.is_up)


if __name__ == "__main__":
    unittest.main()

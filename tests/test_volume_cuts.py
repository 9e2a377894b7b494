"""Points 2, 84, 96 and 97: a volume whose power is cut before and during every single program and erase."""

import unittest

from samples import all_states
from stores import Numbers
from trees import told
from volumes import deeds_in, flash, prefixes

from tidemark.errors import PowerCut, TidemarkError
from tidemark.files.values import tree_of, tree_values
from tidemark.inspector.inspecting import inspect_flash
from tidemark.tools.calls import make_call
from tidemark.tools.copying import copies
from tidemark.tools.removing import removals
from tidemark.volume.mounting import mount_flash, peek_flash

FATES = ("before", "during")

CALLS = [
    ("mkdir", "/d"),
    ("write", "/d/f", 0, [1] * 500),
    ("sync",),
    ("symlink", "d/f", "/l"),
    ("open_file", "/d/f"),
    ("batch", [("write", "/l", 480, [2] * 30), ("link", "/d/f", "/g"), ("mkdir", "/e")]),
    ("copy_tree", "/d", "/e/d"),
    ("unlink", "/g"),
    ("sync",),
    ("mkdir", "/g"),
    ("unlink", "/d/f"),
    ("write_at", 0, 0, [3] * 900),
    ("remove_tree", "/e"),
    ("copy_tree", "/", "/c"),
]


def looked(chip, numbers, fates=()):
    """A copy of a chip with drawn looks."""
    twin = chip.copied()
    twin.plan(list(fates), [numbers.below(2) == 0 for _ in range(120)])
    return twin


def filled(files=3, octets=400):
    """A chip with a volume that needs several pages already."""
    chip, volume = flash(32, 32)
    for at in range(files):
        volume.write(f"/old{at}", 0, [at + 1] * octets)
    volume.sync()
    return chip


def make_calls(volume, calls):
    for call in calls:
        make_call(volume, call)


class Cuts(unittest.TestCase):
    def cut_run(self, chip, calls, fates):
        """The volume, and the values that a mount may show, of a run of calls in which the power is cut."""
        volume = mount_flash(chip)
        start = tree_values(volume.tree_now())
        chip.plan(fates, [])
        self.assertRaises(PowerCut, make_calls, volume, calls)
        self.assertFalse(chip.powered or volume.is_up)
        return volume, prefixes(start, volume)

    def check_mount(self, chip, numbers, allowed):
        """What mounts and peeks of copies of the chip show with several looks."""
        shown = [told(peek_flash(looked(chip, numbers)).tree_now()) for _ in range(2)]
        report = inspect_flash(looked(chip, numbers))
        self.assertEqual((report.defects, report.volume is None), ([], False))
        twins = [looked(chip, numbers), looked(chip, numbers)]
        shown += [told(mount_flash(twin).tree_now()) for twin in twins]
        self.assertEqual(shown[1:], shown[:-1])
        self.assertEqual([twin.refused for twin in twins], [0, 0])
        values = tree_values(mount_flash(twins[0]).tree_now())
        self.assertIn(values, allowed)
        self.assertEqual(told(tree_of(values)), shown[0])
        return values

    def check_cut_mounts(self, chip, numbers, values):
        """Cut a mount at each of its deeds: the next mount shows the same."""
        twin = looked(chip, numbers)
        deeds = deeds_in(twin, mount_flash, twin)
        for deed in range(deeds):
            for fate in FATES:
                again = looked(chip, numbers, ["ok"] * deed + [fate])
                self.assertRaises(PowerCut, mount_flash, again)
                self.assertEqual(self.check_mount(again, numbers, [values]), values)
        return deeds

    def check_calls(self, chip, calls, numbers, mounts_of):
        twin = chip.copied()
        deeds = deeds_in(twin, make_calls, mount_flash(twin), calls)
        in_mounts = 0
        for deed in range(deeds):
            for fate in FATES:
                again = chip.copied()
                _, allowed = self.cut_run(again, calls, ["ok"] * deed + [fate])
                values = self.check_mount(again, numbers, allowed)
                if (2 * deed + FATES.index(fate)) % mounts_of == 0:
                    in_mounts += self.check_cut_mounts(again, numbers, values)
        return deeds, in_mounts

    def test_small_volume(self):
        deeds, in_mounts = self.check_calls(flash(32, 32)[0], CALLS, Numbers(5), 9)
        self.assertGreater(deeds, 50)
        self.assertGreater(in_mounts, 80)

    def test_volume_with_failures(self):
        """Failures before the cut are failures in every run of the calls."""
        chip = filled()
        volume = mount_flash(chip)
        chip.plan(["ok"] * 3 + ["fail"] + ["ok"] * 40 + ["fail"], [])
        make_calls(volume, [*CALLS, ("remove_tree", "/c"), ("sync",)])
        self.assertEqual(len(volume.wear()[1]), 2)
        deeds, _ = self.check_calls(chip, [("sync",), ("write", "/old1", 0, [7] * 3000), ("sync",)], Numbers(6), 100)
        self.assertGreater(deeds, 8)

    def test_failures_beside_the_cut(self):
        numbers = Numbers(7)
        chip = filled()
        for failing in range(0, 24, 2):
            for cut in range(failing + 1, 40, 6):
                again = chip.copied()
                fates = ["ok"] * failing + ["fail"] + ["ok"] * (cut - failing) + [FATES[cut // 6 % 2]]
                _, allowed = self.cut_run(again, CALLS, fates)
                self.check_mount(again, numbers, allowed)

    def test_cut_in_the_mount_of_a_new_volume(self):
        """A mount whose settling changes make the root."""
        chip, volume = flash()
        volume.mkdir("/a")
        volume.sync()
        values = tree_values(volume.tree_now())
        self.assertGreater(self.check_cut_mounts(chip, Numbers(8), values), 3)

    def test_parts_of_tools(self):
        """Each operation of remove_tree and copy_tree is made whole or not at all, and they come in their order."""
        chip = filled(2)
        make_calls(mount_flash(chip), [*CALLS[:7], ("sync",)])
        tree = mount_flash(chip).tree_now()
        for call, operations in (
            (("remove_tree", "/e"), removals(tree, "/e")),
            (("copy_tree", "/", "/c"), copies(tree, "/", "/c")),
        ):
            steps = [tree_values(tree)]
            volume = mount_flash(chip.copied())
            for operation in operations:
                volume.carry_out(operation)
                steps.append(tree_values(volume.tree_now()))
            twin = chip.copied()
            deeds = deeds_in(twin, make_calls, mount_flash(twin), [call, ("sync",)])
            for deed in range(deeds):
                again = chip.copied()
                volume, allowed = self.cut_run(again, [call, ("sync",)], ["ok"] * deed + [FATES[deed % 2]])
                self.assertEqual(allowed, steps[: len(allowed)])
                self.assertEqual(len(volume.accepted_changes()), len(allowed) - 1)
                self.check_mount(again, Numbers(deed), steps)

    def test_failed_programs_lose_nothing(self):
        """With as many failures as there are spare blocks every answer is the same, and so is the next mount."""
        chip = filled()
        expected = chip.copied()
        volume = mount_flash(expected)
        make_calls(volume, [*CALLS, ("sync",)])
        for first in range(0, 40, 3):
            again = chip.copied()
            failing = mount_flash(again)
            again.plan(["ok"] * first + ["fail"] + ["ok"] * 7 + ["fail"], [])
            make_calls(failing, [*CALLS, ("sync",)])
            self.assertEqual(told(failing.tree_now()), told(volume.tree_now()))
            self.assertEqual(told(mount_flash(again).tree_now()), told(mount_flash(expected.copied()).tree_now()))
            states = [state[0] for block in all_states(again) for state in block]
            self.assertTrue("spoilt" in states or len(failing.wear()[1]) < 2)

    def test_no_power_at_all(self):
        """A cut before the first deed of a call leaves what was synced."""
        chip, volume = flash()
        volume.write("/f", 0, [1])
        volume.sync()
        chip.plan(["before"], [])
        volume.mkdir("/d")
        self.assertRaises(TidemarkError, volume.sync)
        self.assertEqual(mount_flash(chip).readdir("/"), ["f"])


if __name__ == "__main__":
    unittest.main()

"""Points 104 to 108: power cuts explored."""

import unittest

from samples import all_states, whole
from stores import Numbers
from test_volume import CHANGING, READING
from trees import DrawnOperations
from volumes import answer_of, flash, settled

from tidemark.chip.chip import Chip
from tidemark.errors import (
    CallRefused,
    InvalidCall,
    InvalidCalls,
    NoVolume,
    PowerCut,
    TidemarkError,
    TooManyDeeds,
    WornOut,
    word_of,
)
from tidemark.explorer.explore import explore
from tidemark.files.operations import OPERATIONS
from tidemark.files.values import tree_values
from tidemark.tools.calls import make_call
from tidemark.volume.mounting import format_flash, mount_flash

STAT = ("stat", "/")


def formatted_flash(blocks=24, pages=16):
    chip = Chip(blocks, pages)
    format_flash(chip)
    return chip


def error_of(chip, calls):
    """The error of an exploration, which must leave the chip as it was."""
    before = whole(chip)
    try:
        explore(chip, calls)
    except TidemarkError as error:
        assert whole(chip) == before
        return error
    return None


def changed_page(before, after):
    """The deed that was cut, seen in the states of the chip: its kind, its block, and its page or None."""
    for block, (old, new) in enumerate(zip(before, after)):
        if old != new and new[0] == ("half",):
            return "erase", block, None
        for page, state in enumerate(new):
            if state != old[page] and state[0] == "shaky":
                return "program", block, page
    return None


def run_cut(chip, calls, deed, fate):
    """The run of point 107, and what stands on the chip before and behind its last call; None if nothing was cut."""
    twin = chip.copied()
    volume = mount_flash(twin)
    start = tree_values(volume.tree_now())
    twin.plan(["ok"] * deed + [fate], [])
    states = []
    for call in calls:
        states = all_states(twin)
        try:
            make_call(volume, call)
        except PowerCut:
            return twin, volume, start, states
    return None


def plain_result(chip, volume, start):
    """Point 108."""
    shown = answer_of(lambda: tree_values(mount_flash(chip.copied()).tree_now()))
    if not isinstance(shown, tuple):
        return None
    values = [start]
    for changes in volume.accepted_changes():
        made = {**values[-1], **dict(changes)}
        values.append({key: value for key, value in made.items() if value is not None})
    for many in range(volume.synced_count(), len(values)):
        if settled(values[many]) == shown[1]:
            return many
    return None


def plain_explore(chip, calls):
    """All deeds with their results, by way of the interface of volumes alone."""
    found = []
    while True:
        cut = run_cut(chip, calls, len(found), "during")
        if cut is None:
            return found
        twin, volume, start, states = cut
        deed = changed_page(states, all_states(twin))
        before = run_cut(chip, calls, len(found), "before")
        found.append((*deed, plain_result(*before[:3]), plain_result(twin, volume, start)))


class Examples(unittest.TestCase):
    def test_of_the_document(self):
        found = explore(formatted_flash(), [("mkdir", "/a"), ("sync",)])
        self.assertEqual(found[0], ("program", 4, 0, 0, 0))
        self.assertEqual(found[3], ("program", 4, 3, 0, 1))
        self.assertEqual(len(found), 4)
        self.assertEqual([row[2] for row in found], [0, 1, 2, 3])


class NumberOfCalls(unittest.TestCase):
    def test_bounds(self):
        chip = formatted_flash()
        self.assertIsInstance(error_of(chip, []), InvalidCalls)
        self.assertIsInstance(error_of(chip, [STAT] * 17), InvalidCalls)
        self.assertIsInstance(error_of(chip, [("x",)] * 17), InvalidCalls)
        self.assertEqual(explore(chip, [STAT]), [])
        self.assertEqual(explore(chip, [STAT] * 16), [])

    def test_names(self):
        chip = formatted_flash()
        for at in (0, 1, 15):
            for name in ("x", "", "Sync", "perform", "carry_out", "room", "tree_now", "make_call"):
                calls = [STAT] * 16
                calls[at] = (name, "/")
                error = error_of(chip, calls)
                self.assertIsInstance(error, InvalidCall)
                self.assertEqual((error.index, word_of(error)), (at, "invalidcall"))

    def test_first_wrong_name(self):
        self.assertEqual(error_of(formatted_flash(), [STAT, ("x",), ("y",)]).index, 1)

    def test_all_names(self):
        chip = formatted_flash()
        further = [("sync",), ("batch", [STAT]), ("copy_tree", "/", "/c"), ("remove_tree", "/c")]
        for call in CHANGING + READING + further:
            self.assertIsInstance(error_of(chip, [call]), (CallRefused, type(None)))

    def test_names_before_the_volume(self):
        self.assertIsInstance(error_of(Chip(24, 16), []), InvalidCalls)
        self.assertIsInstance(error_of(Chip(24, 16), [("x",)]), InvalidCall)
        self.assertIsInstance(error_of(Chip(24, 16), [STAT]), NoVolume)


class Refused(unittest.TestCase):
    def check(self, calls, index, word, chip=None):
        error = error_of(chip or formatted_flash(), calls)
        self.assertIsInstance(error, CallRefused)
        self.assertEqual((error.index, error.word), (index, word))
        self.assertEqual(word_of(error), f"call {index}: {word}")

    def test_words(self):
        self.check([("rmdir", "/x")], 0, "notfound")
        self.check([("mkdir", "/a"), ("mkdir", "/a")], 1, "alreadyexists")
        self.check([STAT, ("mkdir", "a")], 1, "invalidpath")
        self.check([("batch", [])], 0, "invalidbatch")
        self.check([("batch", [STAT, ("x",)])], 0, "invalidoperation")
        self.check([STAT, STAT, ("batch", [STAT, ("readlink", "/x")])], 2, "operation 1: notfound")
        self.check([("remove_tree", "/")], 0, "rootfixed")
        self.check([("copy_tree", "/", "/")], 0, "rootfixed")
        self.check([("read_at", 0, 0, 1)], 0, "notopen")
        self.check([("write", f"/{at}", 0, [1] * 5376) for at in range(5)], 2, "nospace")

    def test_before_too_many_deeds(self):
        calls = [("write", "/f", 0, [at + 1] * 5376) for at in range(12)]
        self.assertIsInstance(error_of(formatted_flash(), calls), TooManyDeeds)
        self.check(calls + [("rmdir", "/x")], 12, "notfound")

    def test_worn_out_flash(self):
        chip = formatted_flash()
        for _ in range(3):
            chip.plan(["fail"], [])
            mount_flash(chip)
        self.assertEqual(len(mount_flash(chip).wear()[1]), 3)
        self.check([STAT, ("mkdir", "/a")], 1, "wornout", chip)
        self.assertEqual(explore(chip, [STAT, ("sync",)]), [])

    def test_no_block_left(self):
        chip = formatted_flash()
        for block in range(4, 24):
            chip.plan(["fail"], [])
            chip.erase(block)
        self.assertIsInstance(error_of(chip, [STAT]), WornOut)


class Deeds(unittest.TestCase):
    def check(self, chip, calls):
        before = whole(chip)
        found = explore(chip, calls)
        self.assertEqual(whole(chip), before)
        self.assertEqual(found, plain_explore(chip, calls))
        return found

    def test_calls_that_only_read(self):
        chip, volume = flash()
        volume.write("/f", 0, [1])
        volume.sync()
        calls = [STAT, ("readdir", "/"), ("read", "/f", 0, 9), ("open_file", "/f"), ("close_file", 0), ("sync",)]
        self.assertEqual(self.check(chip, calls), [])
        # A change that stays in the buffer makes no deed either.
        self.assertEqual(self.check(chip, [("mkdir", "/a")]), [])

    def test_changes_before_and_behind_a_sync(self):
        calls = [("mkdir", "/a"), ("sync",), ("mkdir", "/b"), ("mkdir", "/c"), ("sync",), ("mkdir", "/d")]
        found = self.check(formatted_flash(), calls)
        results = [row[3:] for row in found]
        self.assertEqual(results[:4], [(0, 0), (0, 0), (0, 0), (0, 1)])
        self.assertEqual(results[4:], [(1, 1)] * (len(results) - 5) + [(1, 3)])

    def test_prefix_in_the_middle(self):
        """A buffer that is flushed without a sync is found as soon as the next batch begins."""
        calls = [("write", "/f", 0, [1] * 2500), ("write", "/f", 0, [2] * 3000), ("sync",)]
        found = self.check(formatted_flash(), calls)
        self.assertEqual(found[0][3:], (0, 0))
        self.assertEqual(found[-1][3:], (1, 2))
        # The mark of the first batch is the first item of the second one.
        first = [row[3:] for row in found].index((0, 1))
        self.assertTrue(0 < first < len(found) - 1)

    def test_commits_with_erases(self):
        chip, volume = flash()
        volume.write("/f", 0, [1] * 4000)
        volume.sync()
        found = self.check(chip, [("write", "/f", 0, [at + 2] * 3800) for at in range(5)] + [("sync",)])
        self.assertIn("erase", [row[0] for row in found])
        for deed, block, page, before, during in found:
            self.assertEqual(page is None, deed == "erase")
            self.assertIsNotNone(before)
            self.assertIsNotNone(during)
        # A cut later on shows no less.
        self.assertEqual([row[3] for row in found], sorted(row[3] for row in found))

    def test_each_kind_of_call(self):
        calls = [
            ("mkdir", "/d"),
            ("write", "/d/f", 0, [1] * 900),
            ("batch", [("link", "/d/f", "/g"), ("symlink", "d", "/l")]),
            ("sync",),
            ("open_file", "/g"),
            ("copy_tree", "/l", "/c"),
            ("remove_tree", "/d"),
            ("unlink", "/g"),
            ("sync",),
        ]
        found = self.check(formatted_flash(32, 32), calls)
        self.assertGreater(len(found), 12)

    def test_files_that_are_open(self):
        """The prefixes are settled: a file without a name is not mounted."""
        calls = [("write", "/f", 0, [1]), ("open_file", "/f"), ("unlink", "/f"), ("sync",)]
        found = self.check(formatted_flash(), calls)
        # Without a file the volume is as it was at first, so the least prefix is the empty one.
        self.assertEqual([row[3:] for row in found], [(0, 0)] * len(found))
        self.assertGreater(len(found), 1)

    def test_changes_that_lead_back(self):
        calls = [("mkdir", "/a"), ("rmdir", "/a"), ("mkdir", "/b"), ("sync",), ("rmdir", "/b"), ("sync",)]
        found = self.check(formatted_flash(), calls)
        self.assertEqual(found[0][3:], (0, 0))
        self.assertEqual(found[-1][3:], (3, 4))

    def test_dead_blocks(self):
        """The erase of a block that is dead takes no fate and is no deed."""
        chip, volume = flash()
        volume.write("/f", 0, [1] * 4000)
        volume.sync()
        twin = chip.copied()
        free = [block for block in range(24) if set(all_states(chip)[block]) == {("blank",)}]
        for block in free[:2]:
            twin.plan(["fail"], [])
            twin.erase(block)
        # The volume does not know yet that they are dead.
        dead = [block for block in range(24) if not twin.is_alive(block)]
        calls = [("write", "/f", 0, [at + 2] * 3800) for at in range(5)] + [("sync",)]
        found = self.check(twin, calls)
        self.assertEqual(len(dead), 2)
        self.assertEqual([row for row in found if row[1] in dead], [])
        # The calls do meet the dead blocks.
        volume = mount_flash(twin)
        for call in calls:
            make_call(volume, call)
        self.assertEqual(sorted(volume.wear()[1]), dead)

    def test_mounts_that_fail(self):
        """Blocks of which no one knows that they are dead leave too few for a mount that has items to commit."""
        for alive, last in ((6, None), (7, 1)):
            chip = formatted_flash()
            for block in range(alive, 24):
                chip.plan(["fail"], [])
                chip.erase(block)
            found = self.check(chip, [("mkdir", "/a"), ("sync",)])
            self.assertEqual([row[3:] for row in found], [(0, 0)] * 3 + [(0, last)])

    def test_drawn_calls(self):
        deeds = 0
        for seed in range(12):
            numbers = Numbers(seed)
            drawn = DrawnOperations(seed)
            chip, volume = flash(32, 16)
            for _ in range(25):
                answer_of(volume.perform, drawn.operation())
            if seed % 3 == 0:
                chip.plan(["ok"] * seed + ["fail"], [])
                volume.sync()
                chip.plan([], [])
            calls = []
            trial = mount_flash(chip.copied())
            while len(calls) < 9:
                call = ("sync",) if numbers.below(4) == 0 else drawn.operation()
                if isinstance(answer_of(make_call, trial, call), tuple):
                    calls.append(call)
            deeds += len(self.check(chip, calls))
        self.assertGreater(deeds, 60)


class TooMany(unittest.TestCase):
    def deeds_of(self, calls, chip):
        """How many deeds the calls make, by way of the fates of the chip."""
        twin = chip.copied()
        volume = mount_flash(twin)
        twin.plan(["ok"] * 200, [])
        for call in calls:
            make_call(volume, call)
        return 200 - len(twin.fates_left())

    def test_bound(self):
        chip = formatted_flash(48, 32)
        calls = [("write", "/f", 0, [at + 1] * 4032) for at in range(11)]
        for chunks, many in ((11, 128), (12, 129)):
            tried = calls + [("write", "/g", 0, [1] * (448 * chunks)), ("sync",)]
            self.assertEqual(self.deeds_of(tried, chip), many)
            if many == 128:
                self.assertEqual(len(explore(chip, tried)), 128)
            else:
                self.assertIsInstance(error_of(chip, tried), TooManyDeeds)


class Chips(unittest.TestCase):
    """Point 104: the chip does not change, and its fates and looks stay."""

    def test_fates_looks_and_power(self):
        chip, volume = flash()
        volume.mkdir("/a")
        chip.plan(["ok", "ok", "during"], [])
        self.assertRaises(PowerCut, volume.sync)
        chip.plan(["fail", "before", "during"] * 9, [False, True] * 20)
        before = whole(chip)
        self.assertFalse(chip.powered)
        found = explore(chip, [("mkdir", "/b"), ("sync",)])
        self.assertEqual(whole(chip), before)
        self.assertEqual(len(found), 4)
        self.assertEqual(found[3][3:], (0, 1))

    def test_volume_stays_up(self):
        chip, volume = flash()
        volume.mkdir("/a")
        self.assertEqual(explore(chip, [("mkdir", "/b"), ("sync",)])[3][3:], (0, 1))
        self.assertTrue(volume.is_up)
        self.assertEqual(volume.readdir("/"), ["a"])

    def test_calls_stay(self):
        calls = [("batch", [("write", "/a", 0, [1, 2])]), ("sync",)]
        explore(formatted_flash(), calls)
        self.assertEqual(calls, [("batch", [("write", "/a", 0, [1, 2])]), ("sync",)])


if __name__ == "__main__":
    unittest.main()

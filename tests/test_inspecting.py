"""Points 98, 99 and 103: reports."""

import unittest

from samples import item, mark, node, whole
from stores import Numbers, formatted, nothing, planted
from test_defects import BLANK, DAMAGED, changed, empty_scan, good_root, right, scan_with
from trees import DrawnOperations, told, word_of_call
from volumes import answer_of, flash, settled

from tidemark.chip.chip import Chip
from tidemark.errors import NoVolume, PowerCut, TidemarkError
from tidemark.files.values import tree_values
from tidemark.inspector.inspecting import Report, inspect_flash, inspect_scan
from tidemark.store.starting import mount_store, peek_values
from tidemark.volume.mounting import format_flash, mount_flash, peek_flash

WORDS = ["blank", "damaged", "root", "item", "node", "mark"]


def pages_of(**counts):
    return {word: counts.get(word, 0) for word in WORDS}


class Reports(unittest.TestCase):
    def test_fields(self):
        defects = [(1, 2, "blank")]
        pages = pages_of(blank=3)
        report = Report(defects, (1, 2, 3, 4), pages)
        self.assertEqual((report.defects, report.volume, report.pages), ([(1, 2, "blank")], (1, 2, 3, 4), pages))
        # It keeps no list and no dict that it receives.
        defects.clear()
        pages.clear()
        self.assertEqual((report.defects, list(report.pages)), ([(1, 2, "blank")], WORDS))
        self.assertIsNone(Report([], None, {}).volume)

    def test_new_chip(self):
        report = inspect_flash(Chip(24, 16))
        self.assertEqual((report.defects, report.volume), ([(0, 0, "no root")], None))
        self.assertEqual(report.pages, pages_of(blank=384))
        self.assertEqual(list(report.pages), WORDS)

    def test_formatted_chip(self):
        report = inspect_flash(formatted())
        self.assertEqual((report.defects, report.volume), ([], (1, 1, 0, 0)))
        self.assertEqual(report.pages, pages_of(blank=382, root=1, mark=1))

    def test_mounted_chip(self):
        chip, volume = flash()
        report = inspect_flash(chip)
        # The root of the volume is one key below four nodes.
        self.assertEqual((report.defects, report.volume), ([], (2, 2, 1, 0)))
        self.assertEqual(report.pages, pages_of(blank=375, root=2, mark=2, item=1, node=4))
        volume.mkdir("/a")
        self.assertEqual(inspect_flash(chip).volume, (2, 2, 1, 0))
        volume.sync()
        self.assertEqual(inspect_flash(chip).volume, (2, 2, 3, 3))

    def test_pages_of_each_kind(self):
        scan = empty_scan()
        contents = [right(item()), right(item(value=None)), right(node()), right(mark()), DAMAGED, right(good_root())]
        scan[4][: len(contents)] = contents
        scan[23][15] = DAMAGED
        report = inspect_scan(scan)
        self.assertEqual(report.pages, pages_of(blank=377, damaged=2, root=1, item=2, node=1, mark=1))
        self.assertEqual(list(report.pages), WORDS)
        # The root stands on an odd page.
        self.assertEqual((report.defects, report.volume), ([(0, 0, "no root")], None))

    def test_changes_nothing(self):
        chip, volume = flash()
        volume.mkdir("/a")
        chip.plan(["ok", "ok", "during"], [])
        self.assertRaises(PowerCut, volume.sync)
        chip.plan(["fail"], [False, True])
        before = whole(chip)
        report = inspect_flash(chip)
        self.assertEqual((report.pages["damaged"], chip.looks_left(), chip.fates_left()), (1, [True], ["fail"]))
        report.pages.clear()
        report.defects.append(1)
        chip.plan(["fail"], [False, True])
        self.assertEqual(whole(chip), before)
        scan = chip.scan()
        kept = [list(readings) for readings in scan]
        inspect_scan(scan)
        self.assertEqual(scan, kept)

    def test_one_scan(self):
        """An unstable page takes one look, also if it is looked at for several reasons."""
        chip, volume = flash()
        volume.mkdir("/a")
        chip.plan(["during"], [])
        self.assertRaises(PowerCut, volume.sync)
        for looks in ([True] * 3, [False] * 3):
            chip.plan([], looks)
            report = inspect_flash(chip)
            self.assertEqual(len(chip.looks_left()), 2)
            self.assertEqual(report.pages["damaged"], 0 if looks[0] else 1)


class Roots(unittest.TestCase):
    """Which root is looked at."""

    def test_roots_that_do_not_count(self):
        root = good_root()
        for page, follower in ((0, BLANK), (1, right(mark())), (15, None), (14, BLANK), (3, DAMAGED)):
            scan = empty_scan()
            scan[6][page] = right(root)
            if follower is not None:
                scan[6][page + 1] = follower
            report = inspect_scan(scan)
            self.assertEqual((report.defects, report.volume), ([(0, 0, "no root")], None))

    def test_roots_that_count(self):
        for page, follower in ((0, DAMAGED), (14, right(mark())), (2, right(item()))):
            scan = empty_scan()
            scan[6][page : page + 2] = [right(good_root()), follower]
            self.assertEqual(inspect_scan(scan).volume, (5, 3, 0, 0))

    def test_greatest_number(self):
        scan = scan_with(good_root(number=7, epoch=2), 3)
        scan[9][0:4] = [right(good_root(number=6)), right(mark()), right(good_root(number=8)), BLANK]
        scan[11][4:6] = [right(good_root(number=7, epoch=9)), right(mark())]
        self.assertEqual(inspect_scan(scan).volume, (7, 2, 0, 0))


class Volumes(unittest.TestCase):
    """Point 99."""

    def scan_with_items(self, items, epoch=3):
        """A scan with the keys 0, 1 and 40, and these items in the journal, which is in the blocks 1 and 2."""
        scan = planted({3: [0, 1, 40]}, epoch=epoch).scan()
        readings = [reading if reading in (BLANK, DAMAGED) else right(reading) for reading in items]
        scan[1][: len(readings)] = readings
        return scan

    def check(self, items, keys, counted):
        report = inspect_scan(self.scan_with_items(items))
        self.assertEqual((report.defects, report.volume), ([], (5, 3, keys, counted)))

    def test_keys_of_the_tree(self):
        self.check([], 3, 0)

    def test_items_that_put_and_drop(self):
        self.check([item(3, 1, True, 7, (1,)), mark()], 4, 1)
        self.check([item(3, 1, True, 40, (1,)), mark()], 3, 1)
        self.check([item(3, 1, True, 40, None), mark()], 2, 1)
        self.check([item(3, 1, True, 41, None), mark()], 3, 1)
        self.check([item(3, 1, False, 7, ()), item(3, 2, False, 0, None), item(3, 3, True, 8, (1,)), mark()], 4, 3)
        # In order: a key that is put and dropped again, and the other way round.
        self.check([item(3, 1, False, 7, (1,)), item(3, 2, True, 7, None), mark()], 3, 2)
        self.check([item(3, 1, False, 40, None), item(3, 2, True, 40, (1,)), mark()], 3, 2)

    def test_all_keys_dropped(self):
        drops = [item(3, at + 1, at == 2, key, None) for at, key in enumerate((0, 1, 40))]
        self.check([*drops, mark()], 0, 3)

    def test_items_that_do_not_count(self):
        self.check([item(3, 1, True, 7, (1,))], 3, 0)
        self.check([item(3, 1, False, 7, (1,)), mark()], 3, 0)
        self.check([item(3, 2, True, 7, (1,)), mark()], 3, 0)
        self.check([item(3, 1, True, 7, (1,)), item(3, 2, False, 8, (1,)), mark()], 4, 1)

    def test_items_of_another_epoch(self):
        self.check([item(2, 1, True, 7, (1,)), mark()], 3, 0)
        self.check([item(4, 1, True, 7, (1,)), item(3, 1, True, 8, (1,)), item(0, 2, True, 9, ()), mark()], 4, 1)

    def test_damaged_pages_are_passed_over(self):
        self.check([DAMAGED, item(3, 1, False, 7, (1,)), DAMAGED, item(3, 2, True, 8, (1,)), DAMAGED], 5, 2)

    def test_keys_beyond_the_index(self):
        self.check([item(3, 1, True, 4294967295, (1,)), mark()], 4, 1)

    def test_no_tree(self):
        scan = scan_with(changed(good_root(), tree=None))
        scan[1][:2] = [right(item(3, 1, True, 7, (1,))), right(mark())]
        self.assertEqual(inspect_scan(scan).volume, (5, 3, 1, 1))

    def test_settling_does_not_matter(self):
        """A formatted chip has no key, and a file without a name keeps its keys."""
        self.assertEqual(inspect_flash(formatted()).volume, (1, 1, 0, 0))
        chip, volume = flash()
        volume.write("/f", 0, [1])
        volume.open_file("/f")
        volume.unlink("/f")
        volume.sync()
        self.assertEqual(inspect_flash(chip).volume[2], 3)
        self.assertEqual(len(tree_values(peek_flash(chip).tree_now())), 1)

    def test_a_defect_of_the_root_alone(self):
        scan = scan_with(good_root(journal=(0, 0)))
        report = inspect_scan(scan)
        self.assertEqual((report.defects, report.volume), ([(0, 0, "journal")], (5, 3, 0, 0)))

    def test_defects_of_both(self):
        scan = scan_with(good_root(journal=(0, 0), tree=(2, 0)))
        report = inspect_scan(scan)
        self.assertEqual((report.defects, report.volume), ([(0, 0, "journal"), (3, 0, "blank")], None))


class Agreement(unittest.TestCase):
    """Point 103: reports beside peeks and mounts."""

    def compare(self, chip, looks):
        """The report of a copy of the chip, which must agree with its peek and its mount."""
        twins = []
        for _ in range(3):
            twins.append(chip.copied())
            twins[-1].plan([], looks)
        report = inspect_flash(twins[0])
        self.assertEqual(sum(report.pages.values()), chip.shape[0] * chip.shape[1])
        found = answer_of(peek_values, twins[1], nothing)
        self.assertEqual(report.volume is None, found is NoVolume)
        if report.volume is not None:
            self.assertEqual(report.volume[2], len(found[1]))
        if not report.defects:
            self.assertNotEqual(word_of_call(mount_store, twins[2], nothing), "novolume")
        return report

    def test_damaged_chips(self):
        numbers = Numbers(4)
        seen = {"volume": 0, "none": 0}
        for _ in range(150):
            chip = planted({3: [0, 1, 40], 4: [4096]}, journal=(0, 1))
            for _ in range(1 + numbers.below(3)):
                # Another root, or a block that is gone.
                if numbers.below(3) == 0:
                    fate = numbers.one_of(["ok", "fail", "during"])
                    chip.plan([fate], [])
                    chip.erase(numbers.below(6))
                    chip.switch_on()
                else:
                    places = {0: 1, 1: numbers.below(26), 2: 3, 3: numbers.one_of([4, 4, 4, 9, None])}
                    block, page = 10 + numbers.below(5), 2 * numbers.below(8)
                    tree = numbers.one_of([(2, 6), (2, 5), None])
                    chip.program(block, page, good_root(places=places, number=6 + numbers.below(3), tree=tree))
                    chip.program(block, page + 1, mark())
            report = self.compare(chip, [numbers.below(2) == 0 for _ in range(100)])
            seen["none" if report.volume is None else "volume"] += 1
        self.assertGreater(min(seen.values()), 20, seen)

    def test_volumes_behind_cuts_and_failures(self):
        """No defect at all, and always a volume, from a format that returned on."""
        for seed in range(14):
            numbers = Numbers(seed)
            drawn = DrawnOperations(seed)
            chip = Chip(24, 16)
            chip.plan(["ok"] * numbers.below(20) + ["fail"], [])
            format_flash(chip)
            volume = mount_flash(chip)
            for step in range(120):
                if numbers.below(6) == 0:
                    fate = numbers.one_of(["fail", "before", "during"])
                    chip.plan(["ok"] * numbers.below(9) + [fate], [numbers.below(2) == 0 for _ in range(40)])
                try:
                    if not volume.is_up:
                        volume = mount_flash(chip)
                    elif numbers.below(5) == 0:
                        volume.sync()
                    else:
                        volume.perform(drawn.operation())
                except TidemarkError:
                    pass
                report = self.compare(chip, [numbers.below(2) == 0 for _ in range(200)])
                self.assertEqual((report.defects, report.volume is None), ([], False))
            self.assertEqual(chip.refused, 0)

    def test_number_of_keys_is_that_of_the_next_mount_before_it_settles(self):
        chip, volume = flash(24, 32)
        drawn = DrawnOperations(8)
        for _ in range(200):
            answer_of(volume.perform, drawn.operation())
        volume.sync()
        values = tree_values(volume.tree_now())
        self.assertEqual(inspect_flash(chip).volume[2], len(values))
        self.assertEqual(settled(values), tree_values(mount_flash(chip).tree_now()))
        self.assertEqual(told(peek_flash(chip).tree_now()), told(mount_flash(chip).tree_now()))


if __name__ == "__main__":
    unittest.main()

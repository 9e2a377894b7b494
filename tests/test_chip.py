"""Points 3 and 5 and points 6 to 14: the chip."""

import unittest

from samples import all_states, whole

from tidemark.chip.chip import Chip
from tidemark.errors import InvalidFates, InvalidLooks, InvalidSize, NoSuchBlock, NoSuchPage, TidemarkError

MARK = ("mark", 1)
OTHER = ("item", 1, 2, True, 3, (4, 5))


def planned(fates=(), looks=(), blocks=24, pages=16):
    chip = Chip(blocks, pages)
    chip.plan(list(fates), list(looks))
    return chip


def shaky_chip(looks=()):
    """Page 0 of block 0 is shaky."""
    chip = planned(["during"])
    chip.program(0, 0, MARK)
    chip.switch_on()
    chip.plan([], list(looks))
    return chip


def half_chip(looks=()):
    """All pages of block 0 are half."""
    chip = planned(["during"])
    chip.erase(0)
    chip.switch_on()
    chip.plan([], list(looks))
    return chip


def dead_chip():
    """Block 0 is dead."""
    chip = planned(["fail"])
    chip.erase(0)
    return chip


class Shape(unittest.TestCase):
    """Point 6."""

    def test_sizes_that_are_allowed(self):
        for blocks in (24, 36, 48):
            for pages in (16, 20, 32):
                chip = Chip(blocks, pages)
                self.assertEqual(chip.shape, (blocks, pages))
                self.assertEqual([len(row) for row in chip.scan()], [pages] * blocks)

    def test_sizes_that_are_not_allowed(self):
        for blocks, pages in ((23, 16), (49, 16), (24, 15), (24, 33), (48, 33), (23, 33), (0, 0), (-24, 16)):
            with self.assertRaises(InvalidSize):
                Chip(blocks, pages)

    def test_last_block_and_page_can_be_used(self):
        chip = Chip(48, 32)
        self.assertEqual(chip.program(47, 31, MARK), "done")
        self.assertEqual(chip.state(47, 31), ("full", MARK))

    def test_errors_are_tidemark_errors(self):
        with self.assertRaises(TidemarkError):
            Chip(1, 1)


class NewChip(unittest.TestCase):
    """Points 7, 8, 9, 10, 12 and 14 for a new chip."""

    def test_new_chip(self):
        chip = Chip(25, 17)
        self.assertIs(chip.powered, True)
        self.assertEqual((chip.refused, chip.generation), (0, 0))
        self.assertEqual((chip.fates_left(), chip.looks_left()), ([], []))
        self.assertEqual(all_states(chip), [[("blank",)] * 17] * 25)
        self.assertEqual([chip.erases(block) for block in range(25)], [0] * 25)
        self.assertEqual([chip.is_alive(block) for block in range(25)], [True] * 25)

    def test_two_chips_share_nothing(self):
        one = Chip(24, 16)
        two = Chip(24, 16)
        before = whole(two)
        one.plan(["fail", "ok"], [False])
        one.erase(3)
        one.program(4, 0, MARK)
        one.program(3, 0, MARK)
        self.assertEqual(whole(two), before)


class Plan(unittest.TestCase):
    """Points 10 and 12, and the errors of plan."""

    def test_plan_replaces(self):
        chip = planned(["ok", "fail"], [True, False])
        chip.plan(["before"], [False])
        self.assertEqual((chip.fates_left(), chip.looks_left()), (["before"], [False]))
        chip.plan([], [])
        self.assertEqual((chip.fates_left(), chip.looks_left()), ([], []))

    def test_two_hundred_are_allowed(self):
        chip = planned(["ok", "fail", "before", "during"] * 50, [False] * 200)
        self.assertEqual(chip.fates_left(), ["ok", "fail", "before", "during"] * 50)
        self.assertEqual(chip.looks_left(), [False] * 200)

    def refused_plan(self, error, fates, looks):
        chip = planned(["fail"], [False])
        before = whole(chip)
        with self.assertRaises(error):
            chip.plan(fates, looks)
        self.assertEqual(whole(chip), before)

    def test_too_many_fates(self):
        self.refused_plan(InvalidFates, ["ok"] * 201, [True])

    def test_unknown_fate(self):
        for fates in (["done"], ["ok", "OK"], [""] + ["ok"] * 3, ["ok"] * 199 + ["half"]):
            self.refused_plan(InvalidFates, fates, [True])

    def test_too_many_looks(self):
        self.refused_plan(InvalidLooks, ["ok"], [True] * 201)

    def test_fates_come_before_looks(self):
        self.refused_plan(InvalidFates, ["ok"] * 201, [True] * 201)
        self.refused_plan(InvalidFates, ["never"], [True] * 201)

    def test_lists_are_neither_kept_nor_changed(self):
        fates = ["fail", "ok"]
        looks = [False, True]
        chip = Chip(24, 16)
        chip.plan(fates, looks)
        fates.append("before")
        looks.append(False)
        self.assertEqual((chip.fates_left(), chip.looks_left()), (["fail", "ok"], [False, True]))
        chip.program(0, 0, MARK)
        self.assertEqual((fates, looks), (["fail", "ok", "before"], [False, True, False]))

    def test_lists_that_are_returned_are_new(self):
        chip = planned(["fail"], [False])
        chip.fates_left().clear()
        chip.looks_left().clear()
        self.assertEqual((chip.fates_left(), chip.looks_left()), (["fail"], [False]))


class Program(unittest.TestCase):
    """Points 7, 9 and 10 for programs."""

    def test_without_fates(self):
        chip = Chip(24, 16)
        self.assertEqual(chip.program(5, 0, MARK), "done")
        self.assertEqual(chip.state(5, 0), ("full", MARK))
        self.assertEqual(chip.read(5, 0), ("right", MARK))
        self.assertIs(chip.powered, True)

    def test_ok(self):
        chip = planned(["ok", "fail"])
        self.assertEqual(chip.program(1, 2, OTHER), "done")
        self.assertEqual(chip.state(1, 2), ("full", OTHER))
        self.assertEqual(chip.fates_left(), ["fail"])

    def test_fail(self):
        chip = planned(["fail", "ok"])
        self.assertEqual(chip.program(1, 2, OTHER), "failed")
        self.assertEqual(chip.state(1, 2), ("spoilt",))
        self.assertEqual(chip.read(1, 2), ("damaged",))
        self.assertTrue(chip.is_alive(1))
        self.assertIs(chip.powered, True)
        self.assertEqual(chip.program(1, 3, OTHER), "done")

    def test_before(self):
        chip = planned(["before", "ok"])
        states = all_states(chip)
        self.assertEqual(chip.program(1, 2, OTHER), "cut")
        self.assertEqual(all_states(chip), states)
        self.assertIs(chip.powered, False)
        self.assertEqual(chip.fates_left(), ["ok"])

    def test_during(self):
        chip = planned(["during", "ok"])
        self.assertEqual(chip.program(1, 2, OTHER), "cut")
        self.assertEqual(chip.state(1, 2), ("shaky", OTHER))
        self.assertIs(chip.powered, False)
        self.assertEqual(chip.fates_left(), ["ok"])

    def test_only_the_page_changes(self):
        for fate in ("ok", "fail", "during"):
            chip = planned([fate])
            before = all_states(chip)
            chip.program(6, 7, MARK)
            after = all_states(chip)
            self.assertNotEqual(after[6][7], ("blank",))
            after[6][7] = ("blank",)
            self.assertEqual(after, before)
            self.assertEqual([chip.erases(block) for block in range(24)], [0] * 24)

    def refused_program(self, chip, block, page):
        chip.plan(["fail", "ok"], [False])
        before = list(whole(chip))
        self.assertEqual(chip.program(block, page, OTHER), "refused")
        before[2] += 1
        self.assertEqual(list(whole(chip)), before)

    def test_pages_may_be_left_out(self):
        chip = Chip(24, 16)
        self.assertEqual([chip.program(0, page, MARK) for page in (0, 3, 4, 15)], ["done"] * 4)

    def test_twice(self):
        chip = Chip(24, 16)
        chip.program(0, 3, MARK)
        self.refused_program(chip, 0, 3)

    def test_out_of_order(self):
        chip = Chip(24, 16)
        chip.program(0, 3, MARK)
        for page in (0, 1, 2):
            self.refused_program(chip, 0, page)
        self.assertEqual(chip.refused, 3)

    def test_before_the_last_page_that_is_not_blank(self):
        chip = Chip(24, 16)
        chip.program(0, 15, MARK)
        self.refused_program(chip, 0, 0)
        self.refused_program(chip, 0, 14)

    def test_before_a_page_that_is_spoilt(self):
        chip = planned(["fail"])
        chip.program(0, 9, MARK)
        self.refused_program(chip, 0, 8)
        self.refused_program(chip, 0, 9)

    def test_before_a_page_that_is_shaky(self):
        chip = shaky_chip()
        self.refused_program(chip, 0, 0)

    def test_page_that_is_half(self):
        chip = half_chip()
        self.refused_program(chip, 0, 0)
        self.refused_program(chip, 0, 15)

    def test_other_blocks_do_not_matter(self):
        chip = half_chip()
        chip.program(1, 5, MARK)
        self.assertEqual(chip.program(2, 0, MARK), "done")

    def test_dead_block(self):
        self.refused_program(dead_chip(), 0, 0)

    def test_without_power(self):
        chip = planned(["before"])
        chip.program(0, 0, MARK)
        self.refused_program(chip, 0, 0)
        chip.plan([], [])
        chip.switch_on()
        self.assertEqual(chip.program(0, 0, MARK), "done")
        self.assertEqual(chip.refused, 1)

    def test_erased_block_can_be_programmed_again(self):
        chip = Chip(24, 16)
        chip.program(0, 3, MARK)
        chip.erase(0)
        self.assertEqual(chip.program(0, 0, OTHER), "done")
        self.assertEqual(chip.state(0, 3), ("blank",))


class Erase(unittest.TestCase):
    """Points 8 to 11 for erases."""

    def used(self, fates):
        chip = Chip(24, 16)
        for page in range(3):
            chip.program(4, page, MARK)
        chip.plan(fates, [])
        return chip

    def test_without_fates(self):
        chip = self.used([])
        self.assertEqual(chip.erase(4), "done")
        self.assertEqual(chip.erase(4), "done")
        self.assertEqual(chip.erases(4), 2)

    def test_ok(self):
        chip = self.used(["ok", "fail"])
        self.assertEqual(chip.erase(4), "done")
        self.assertEqual(all_states(chip)[4], [("blank",)] * 16)
        self.assertEqual((chip.erases(4), chip.is_alive(4), chip.powered), (1, True, True))
        self.assertEqual(chip.fates_left(), ["fail"])

    def test_fail(self):
        chip = self.used(["fail", "ok"])
        self.assertEqual(chip.erase(4), "failed")
        self.assertEqual(all_states(chip)[4], [("spoilt",)] * 16)
        self.assertEqual((chip.erases(4), chip.is_alive(4), chip.powered), (1, False, True))
        self.assertEqual(chip.fates_left(), ["ok"])

    def test_before(self):
        chip = self.used(["before", "ok"])
        states = all_states(chip)
        self.assertEqual(chip.erase(4), "cut")
        self.assertEqual(all_states(chip), states)
        self.assertEqual((chip.erases(4), chip.is_alive(4), chip.powered), (0, True, False))
        self.assertEqual(chip.fates_left(), ["ok"])

    def test_during(self):
        chip = self.used(["during", "ok"])
        self.assertEqual(chip.erase(4), "cut")
        self.assertEqual(all_states(chip)[4], [("half",)] * 16)
        self.assertEqual((chip.erases(4), chip.is_alive(4), chip.powered), (1, True, False))
        self.assertEqual(chip.fates_left(), ["ok"])

    def test_only_the_block_changes(self):
        for fate in ("ok", "fail", "during"):
            chip = self.used([])
            chip.program(3, 0, MARK)
            chip.program(5, 0, MARK)
            before = all_states(chip)
            chip.plan([fate], [])
            chip.erase(4)
            after = all_states(chip)
            self.assertEqual(after[:4] + after[5:], before[:4] + before[5:])
            self.assertEqual([chip.erases(block) for block in range(24) if block != 4], [0] * 23)
            self.assertTrue(all(chip.is_alive(block) for block in range(24) if block != 4))

    def test_half_pages_are_erased(self):
        chip = half_chip()
        self.assertEqual(chip.erase(0), "done")
        self.assertEqual(all_states(chip)[0], [("blank",)] * 16)
        self.assertEqual(chip.erases(0), 2)

    def test_dead_block_takes_no_fate_and_changes_nothing(self):
        chip = dead_chip()
        chip.plan(["ok", "during"], [False])
        before = whole(chip)
        self.assertEqual(chip.erase(0), "failed")
        self.assertEqual(chip.erase(0), "failed")
        self.assertEqual(whole(chip), before)
        self.assertEqual(chip.erases(0), 1)

    def refused_erase(self, chip, block):
        before = list(whole(chip))
        self.assertEqual(chip.erase(block), "refused")
        before[2] += 1
        self.assertEqual(list(whole(chip)), before)

    def test_without_power(self):
        chip = self.used(["before", "fail"])
        chip.erase(4)
        self.refused_erase(chip, 4)
        self.refused_erase(chip, 5)
        self.assertEqual(chip.refused, 2)
        chip.switch_on()
        self.assertEqual(chip.erase(4), "failed")

    def test_dead_block_without_power(self):
        chip = dead_chip()
        chip.plan(["before", "ok"], [])
        chip.program(1, 0, MARK)
        self.refused_erase(chip, 0)

    def test_programs_and_erases_take_fates_from_one_list(self):
        chip = planned(["ok", "fail", "ok", "fail", "ok"])
        self.assertEqual(chip.program(0, 0, MARK), "done")
        self.assertEqual(chip.erase(1), "failed")
        self.assertEqual(chip.program(1, 0, MARK), "refused")
        self.assertEqual(chip.erase(1), "failed")
        self.assertEqual(chip.erase(2), "done")
        self.assertEqual(chip.program(2, 0, MARK), "failed")
        self.assertEqual(chip.fates_left(), ["ok"])


class Power(unittest.TestCase):
    """Points 9 and 10: what switching on keeps."""

    def test_switching_on_keeps_the_plan(self):
        chip = planned(["before", "fail"], [False, True])
        chip.program(0, 0, MARK)
        self.assertIs(chip.powered, False)
        chip.switch_on()
        self.assertIs(chip.powered, True)
        self.assertEqual((chip.fates_left(), chip.looks_left()), (["fail"], [False, True]))
        self.assertEqual((chip.refused, chip.generation), (0, 0))

    def test_switching_on_twice(self):
        chip = Chip(24, 16)
        chip.switch_on()
        self.assertIs(chip.powered, True)


class Reads(unittest.TestCase):
    """Points 7 and 12."""

    def check_stable(self, chip, block, page, reading):
        for looks in ([True], [False], []):
            chip.plan([], looks)
            self.assertEqual(chip.read(block, page), reading)
            self.assertEqual(chip.looks_left(), looks)

    def test_blank(self):
        self.check_stable(Chip(24, 16), 23, 15, ("blank",))

    def test_full(self):
        chip = Chip(24, 16)
        chip.program(3, 4, OTHER)
        self.check_stable(chip, 3, 4, ("right", OTHER))

    def test_spoilt(self):
        chip = planned(["fail", "fail"])
        chip.program(3, 4, OTHER)
        chip.erase(5)
        self.check_stable(chip, 3, 4, ("damaged",))
        self.check_stable(chip, 5, 0, ("damaged",))

    def test_shaky(self):
        chip = shaky_chip([True, False, True])
        self.assertEqual(chip.read(0, 0), ("right", MARK))
        self.assertEqual(chip.looks_left(), [False, True])
        self.assertEqual(chip.read(0, 0), ("damaged",))
        self.assertEqual(chip.looks_left(), [True])
        self.assertEqual(chip.read(0, 0), ("right", MARK))
        self.assertEqual(chip.read(0, 0), ("right", MARK))
        self.assertEqual(chip.state(0, 0), ("shaky", MARK))

    def test_half(self):
        chip = half_chip([True, False, True])
        self.assertEqual(chip.read(0, 3), ("blank",))
        self.assertEqual(chip.looks_left(), [False, True])
        self.assertEqual(chip.read(0, 3), ("damaged",))
        self.assertEqual(chip.looks_left(), [True])
        self.assertEqual(chip.read(0, 3), ("blank",))
        self.assertEqual(chip.read(0, 3), ("blank",))
        self.assertEqual(chip.state(0, 3), ("half",))

    def test_state_takes_no_look(self):
        chip = shaky_chip([False])
        chip.state(0, 0)
        self.assertEqual(chip.looks_left(), [False])

    def test_reads_need_no_power_and_take_no_fate(self):
        chip = planned(["during", "fail"], [False])
        chip.program(2, 0, OTHER)
        self.assertEqual(chip.read(2, 0), ("damaged",))
        self.assertEqual(chip.read(2, 0), ("right", OTHER))
        self.assertEqual(chip.read(2, 1), ("blank",))
        self.assertEqual(chip.fates_left(), ["fail"])
        self.assertIs(chip.powered, False)
        self.assertEqual(chip.refused, 0)


class Scan(unittest.TestCase):
    """Point 13."""

    def test_scan_reads_every_page(self):
        chip = Chip(24, 16)
        chip.program(0, 1, MARK)
        chip.program(23, 15, OTHER)
        expected = [[("blank",)] * 16 for _ in range(24)]
        expected[0][1] = ("right", MARK)
        expected[23][15] = ("right", OTHER)
        self.assertEqual(chip.scan(), expected)

    def test_scan_takes_looks_in_the_order_of_the_pages(self):
        chip = planned(["during"])
        chip.erase(1)
        for block, page in ((0, 5), (2, 0), (0, 9)):
            chip.switch_on()
            chip.plan(["during"], [])
            chip.program(block, page, ("mark", 10 * block + page))
        halves = [True, False] * 8
        chip.plan([], [False, True] + halves + [False, True])
        scanned = chip.scan()
        self.assertEqual((scanned[0][5], scanned[0][9]), (("damaged",), ("right", ("mark", 9))))
        self.assertEqual(scanned[1], [("blank",), ("damaged",)] * 8)
        self.assertEqual(scanned[2][0], ("damaged",))
        self.assertEqual(chip.looks_left(), [True])

    def test_scan_needs_no_power_and_changes_nothing_else(self):
        chip = planned(["ok", "during", "fail"])
        chip.program(0, 0, OTHER)
        chip.program(0, 1, MARK)
        before = whole(chip)
        scanned = chip.scan()
        self.assertEqual(scanned[0][:3], [("right", OTHER), ("right", MARK), ("blank",)])
        self.assertEqual(whole(chip), before)

    def test_lists_are_new(self):
        chip = Chip(24, 16)
        scanned = chip.scan()
        scanned[0][0] = ("damaged",)
        scanned[1].clear()
        scanned.pop()
        self.assertEqual(chip.scan(), [[("blank",)] * 16] * 24)
        self.assertEqual(all_states(chip), [[("blank",)] * 16] * 24)


class NoSuchPlaces(unittest.TestCase):
    """Which errors are raised for blocks and pages that do not exist."""

    def check(self, error, call):
        for blocks, pages in ((24, 16), (30, 20)):
            chip = planned(["fail"], [False], blocks, pages)
            before = whole(chip)
            with self.assertRaises(error):
                call(chip, blocks, pages)
            self.assertEqual(whole(chip), before)

    def test_blocks(self):
        for call in (
            lambda chip, block: chip.program(block, 0, MARK),
            lambda chip, block: chip.erase(block),
            lambda chip, block: chip.read(block, 0),
            lambda chip, block: chip.state(block, 0),
            lambda chip, block: chip.erases(block),
            lambda chip, block: chip.is_alive(block),
        ):
            self.check(NoSuchBlock, lambda chip, blocks, pages, act=call: act(chip, -1))
            self.check(NoSuchBlock, lambda chip, blocks, pages, act=call: act(chip, blocks))

    def test_pages(self):
        for call in (
            lambda chip, block, page: chip.program(block, page, MARK),
            lambda chip, block, page: chip.read(block, page),
            lambda chip, block, page: chip.state(block, page),
        ):
            self.check(NoSuchPage, lambda chip, blocks, pages, act=call: act(chip, 0, -1))
            self.check(NoSuchPage, lambda chip, blocks, pages, act=call: act(chip, blocks - 1, pages))
            self.check(NoSuchBlock, lambda chip, blocks, pages, act=call: act(chip, -1, -1))
            self.check(NoSuchBlock, lambda chip, blocks, pages, act=call: act(chip, blocks, pages))

    def test_error_comes_before_the_refusal(self):
        chip = planned(["before"])
        chip.erase(0)
        with self.assertRaises(NoSuchBlock):
            chip.program(24, 0, MARK)
        with self.assertRaises(NoSuchPage):
            chip.program(0, 16, MARK)
        with self.assertRaises(NoSuchBlock):
            chip.erase(24)
        self.assertEqual(chip.refused, 0)


class Copies(unittest.TestCase):
    """Points 8, 12 and 14 and the copy of a chip."""

    def busy(self):
        chip = planned(["ok", "fail", "during"], [], 25, 17)
        chip.program(0, 0, MARK)
        chip.erase(1)
        chip.program(2, 0, OTHER)
        chip.program(3, 0, MARK)
        chip.generation = 6
        chip.plan(["fail"], [False])
        return chip

    def test_copy_has_the_same_blocks_with_power_and_no_plan(self):
        chip = self.busy()
        before = whole(chip)
        twin = chip.copied()
        self.assertEqual(whole(chip), before)
        self.assertEqual((chip.powered, chip.refused), (False, 1))
        expected = list(before)
        expected[1] = True
        expected[4] = []
        expected[5] = []
        self.assertEqual(list(whole(twin)), expected)
        self.assertEqual((twin.refused, twin.generation, twin.shape), (1, 6, (25, 17)))

    def change(self, chip):
        chip.switch_on()
        chip.plan(["ok", "fail", "ok", "before"], [False])
        chip.program(0, 1, OTHER)
        chip.erase(4)
        chip.erase(2)
        chip.program(5, 0, MARK)
        chip.program(5, 0, MARK)
        chip.generation += 1

    def test_neither_changes_with_the_other(self):
        chip = self.busy()
        twin = chip.copied()
        before = whole(twin)
        self.change(chip)
        self.assertEqual(whole(twin), before)
        before = whole(chip)
        self.change(twin)
        self.assertEqual(whole(chip), before)

    def test_generation_of_a_new_chip_and_its_copy(self):
        self.assertEqual(Chip(24, 16).copied().generation, 0)


class Example(unittest.TestCase):
    def test_document(self):
        chip = Chip(24, 16)
        chip.plan(["fail", "during"], [False])
        self.assertEqual(chip.program(0, 0, ("mark", 1)), "failed")
        self.assertEqual(chip.program(0, 1, ("mark", 2)), "cut")
        self.assertEqual(chip.program(0, 2, ("mark", 3)), "refused")
        self.assertEqual(chip.read(0, 1), ("damaged",))
        self.assertEqual(chip.read(0, 1), ("right", ("mark", 2)))


if __name__ == "__main__":
    unittest.main()

"""Points 57 to 59: formats, mounts and peeks."""

import unittest

from samples import all_states, whole
from stores import Numbers, erased, formatted, full_pages, mounted, nothing, outcome, planted, root_of, shown, value_of

from tidemark.chip.chip import Chip
from tidemark.errors import NoVolume, PowerCut, WornOut
from tidemark.store.starting import format_chip, mount_store, peek_values


def first_root(blocks, anchor=0, journal=(1, 2), bad=()):
    return root_of(blocks, dict(enumerate(journal)), number=1, epoch=1, bad=bad)


def planned(fates, blocks=24, pages=16):
    chip = Chip(blocks, pages)
    chip.plan(fates, [])
    return chip


class Formats(unittest.TestCase):
    """Point 57."""

    def test_first_root(self):
        for blocks, pages in ((24, 16), (31, 17), (48, 32)):
            chip = Chip(blocks, pages)
            self.assertIsNone(format_chip(chip))
            self.assertEqual(full_pages(chip, 0), [first_root(blocks), ("mark", 1)])
            self.assertEqual(erased(chip), [1] * blocks)
            for block in range(1, blocks):
                self.assertEqual(full_pages(chip, block), [])
            self.assertEqual((chip.generation, chip.refused), (1, 0))

    def test_used_chip(self):
        store = mounted()
        store.change([(key, ()) for key in range(12)])
        chip = store.chip
        format_chip(chip)
        self.assertEqual(full_pages(chip, 0), [first_root(24), ("mark", 1)])
        self.assertEqual(sum(erased(chip)), 24 + 24 + 2)
        self.assertEqual(chip.generation, 3)
        self.assertEqual(mount_store(chip, nothing).keys_shown(), [])

    def test_power(self):
        chip = Chip(24, 16)
        chip.powered = False
        format_chip(chip)
        self.assertEqual((chip.powered, chip.refused), (True, 0))

    def test_as_many_bad_blocks_as_spare_ones(self):
        for blocks, spare in ((24, 2), (31, 2), (32, 3), (47, 3), (48, 4)):
            chip = planned(["ok"] * 5 + ["fail"] * spare, blocks)
            self.assertIsNone(format_chip(chip))
            root = first_root(blocks, bad=tuple(range(5, 5 + spare)))
            self.assertEqual(full_pages(chip, 0), [root, ("mark", 1)])
            chip = planned(["ok"] * 5 + ["fail"] * (spare + 1), blocks)
            self.assertRaises(WornOut, format_chip, chip)
            self.assertEqual((chip.generation, full_pages(chip, 0)), (1, []))
            self.assertEqual(erased(chip), [1] * blocks)

    def test_first_blocks_bad(self):
        for bad, anchor, journal in (
            ((0,), 1, (2, 3)),
            ((1,), 0, (2, 3)),
            ((0, 1), 2, (3, 4)),
            ((0, 2), 1, (3, 4)),
            ((2, 23), 0, (1, 3)),
        ):
            chip = planned(["fail" if block in bad else "ok" for block in range(24)])
            format_chip(chip)
            root = first_root(24, journal=journal, bad=bad)
            self.assertEqual(full_pages(chip, anchor), [root, ("mark", 1)])

    def test_dead_blocks(self):
        chip = planned(["fail"])
        chip.erase(7)
        chip.plan(["ok"] * 7 + ["fail"], [])
        format_chip(chip)
        # The dead block takes no fate, so the block behind it is the next one that fails.
        self.assertEqual(full_pages(chip, 0)[0], first_root(24, bad=(7, 8)))
        self.assertEqual(chip.fates_left(), [])

    def test_program_of_the_root_that_fails(self):
        for failing in range(1, 8):
            chip = planned(["ok"] * 24 + ["fail"] * failing)
            self.assertIsNone(format_chip(chip))
            pages = ["spoilt", None] * failing + [first_root(24), ("mark", 1)]
            self.assertEqual(full_pages(chip, 0), pages)
            store = mount_store(chip, nothing)
            self.assertEqual((store.home, store.bad), (0, []) if failing < 7 else (5, []))

    def test_no_two_pages_left(self):
        for pages, tries in ((16, 8), (17, 8), (18, 9)):
            chip = planned(["ok"] * 24 + ["fail"] * tries, 24, pages)
            self.assertRaises(WornOut, format_chip, chip)
            self.assertEqual(full_pages(chip, 0), (["spoilt", None] * tries)[:-1])
            self.assertEqual(chip.fates_left(), [])
            chip = planned(["ok"] * 24 + ["fail"] * (tries - 1), 24, pages)
            self.assertIsNone(format_chip(chip))

    def test_program_of_the_mark_that_fails(self):
        chip = planned(["ok"] * 25 + ["fail"])
        self.assertIsNone(format_chip(chip))
        self.assertEqual(full_pages(chip, 0), [first_root(24), "spoilt"])
        self.assertEqual(mount_store(chip, nothing).root[1], 2)

    def test_cuts(self):
        for deeds in range(26):
            for fate in ("before", "during"):
                chip = planned(["ok"] * deeds + [fate])
                self.assertRaises(PowerCut, format_chip, chip)
                self.assertEqual((chip.generation, chip.refused, chip.powered), (1, 0, False))
                done = min(deeds + (fate == "during"), 24)
                self.assertEqual(sum(erased(chip)), done)
                if deeds == 25 and fate == "during":
                    self.assertEqual(mount_store(chip, nothing).keys_shown(), [])
                else:
                    self.assertRaises(NoVolume, mount_store, chip, nothing)
                self.assertIsNone(format_chip(chip))

    def test_looks_stay(self):
        chip = Chip(24, 16)
        chip.plan([], [True, False])
        format_chip(chip)
        self.assertEqual(chip.looks_left(), [True, False])


class Mounts(unittest.TestCase):
    """Point 58."""

    def test_new_chip(self):
        chip = Chip(24, 16)
        chip.powered = False
        self.assertRaises(NoVolume, mount_store, chip, nothing)
        self.assertEqual((chip.generation, chip.powered), (1, True))
        self.assertEqual(erased(chip), [0] * 24)

    def test_index_that_cannot_be_loaded(self):
        chip = planted({3: [5, 6, 70]})
        root = root_of(24, {0: 1, 1: 2, 2: 3, 3: 4}, number=9, tree=(3, 0))
        chip.program(20, 0, root)
        chip.program(20, 1, ("mark", 9))
        before = all_states(chip)
        self.assertRaises(NoVolume, mount_store, chip, nothing)
        self.assertRaises(NoVolume, peek_values, chip, nothing)
        self.assertEqual((all_states(chip), chip.generation), (before, 1))

    def test_state_of_the_store(self):
        chip = planted({3: [5, 6]}, home=9, places={3: 15}, recorded={4: 3, 7: 5}, bad=(12, 10), first_page=4)
        store = mount_store(chip, nothing)
        self.assertEqual((store.bad, store.home, store.anchor, store.position), ([12, 10], 9, 9, 8))
        self.assertEqual([store.recorded[block] for block in (0, 4, 5, 7)], [2, 3, 2, 5])
        self.assertEqual((store.root[1:3], store.clean, store.buffer, store.head), ((6, 4), [], {}, None))
        self.assertEqual((store.generation, chip.generation), (1, 1))
        self.assertEqual(shown(store), {5: value_of(5), 6: value_of(6)})
        self.assertEqual(store.index.find(5)[0], (3, 0))

    def test_position(self):
        for page, spoilt, position in ((0, None, 2), (6, 8, 10), (0, 3, 4), (2, 9, 10), (4, 13, 14), (8, None, 10)):
            chip = planted({}, first_page=page)
            if spoilt is not None:
                chip.plan(["fail"], [])
                chip.program(0, spoilt, ("mark", 3))
            store = mount_store(chip, nothing)
            self.assertEqual((store.home, store.position), (0, position + 2), (page, spoilt))
            self.assertEqual(full_pages(chip, 0)[position:], [store.root, ("mark", 6)])

    def test_position_without_two_pages(self):
        for pages, spoilt in ((16, 15), (17, 15), (17, 16)):
            chip = planted({}, shape=(24, pages), first_page=4)
            chip.plan(["fail"], [])
            chip.program(0, spoilt, ("mark", 3))
            store = mount_store(chip, nothing)
            self.assertEqual((store.home, store.position), (6, 2))

    def test_last_pages_of_the_home(self):
        for shape, page, home in ((16, 12, 0), (16, 14, 6), (17, 14, 6), (18, 14, 0)):
            store = mount_store(planted({}, shape=(24, shape), first_page=page), nothing)
            self.assertEqual(store.home, home, (shape, page))

    def test_half_a_root_behind_the_standing_one(self):
        for looks in ([], [False] * 5):
            chip = planted({3: [5]})
            chip.plan(["during"], looks)
            chip.program(0, 2, root_of(24, {0: 1, 1: 2}, number=6))
            store = mount_store(chip, nothing)
            self.assertEqual((store.root[1], store.position, store.keys_shown()), (6, 6, [5]))

    def test_items_that_count(self):
        chip = planted({3: [5, 6, 70]})
        rows = [(1, False, 5, None), (2, False, 6, (1,)), (3, True, 800, (2,)), (4, True, 70, None)]
        for page, (index, last, key, value) in enumerate(rows):
            chip.program(1, page, ("item", 3, index, last, key, value))
        store = mount_store(chip, nothing)
        self.assertEqual(shown(store), {6: (1,), 70: value_of(70), 800: (2,)})
        self.assertEqual([store.index.find(key)[0] for key in (6, 70, 800)], [(0, 1), (3, 2), (0, 2)])
        self.assertEqual((store.places[0], store.places[1], store.item_count), (1, None, 0))

    def test_commit_without_settling_changes(self):
        chip = planted({3: [5]})
        store = mount_store(chip, nothing)
        self.assertEqual((store.root[1:4], store.journal_at), ((6, 4, (2, 3)), (0, 0)))

    def test_settling_changes(self):
        seen = []

        def settle(values):
            seen.append(values)
            return [(5, None), (7, (1, 2)), (900, ())]

        chip = planted({3: [5, 6, 70]})
        chip.program(1, 0, ("item", 3, 1, True, 8, (8,)))
        chip.program(1, 1, ("mark", 1))
        store = mount_store(chip, settle)
        before = {5: value_of(5), 6: value_of(6), 8: (8,), 70: value_of(70)}
        self.assertEqual((seen, list(seen[0])), ([before], [5, 6, 8, 70]))
        self.assertEqual(shown(store), {6: value_of(6), 7: (1, 2), 8: (8,), 70: value_of(70), 900: ()})
        self.assertEqual(store.buffer, {})
        self.assertEqual(shown(mount_store(chip, nothing)), shown(store))

    def test_failures_while_mounting(self):
        chip = planted({3: [5]})
        worn = chip.copied()
        worn.plan(["fail"] * 40, [])
        self.assertRaises(WornOut, mount_store, worn, nothing)
        self.assertEqual(worn.generation, 1)
        chip.plan(["before"], [])
        self.assertRaises(PowerCut, mount_store, chip, nothing)
        chip.plan(["ok", "before"], [])
        self.assertRaises(PowerCut, mount_store, chip, nothing)
        self.assertEqual((chip.generation, chip.powered), (2, False))
        chip.plan([], [])
        self.assertEqual(mount_store(chip, nothing).keys_shown(), [5])
        self.assertEqual((chip.generation, chip.powered, chip.refused), (3, True, 0))

    def test_one_scan(self):
        chip = planted({3: [5]})
        chip.plan(["during"], [])
        chip.erase(20)
        chip.plan([], [True, False] * 20)
        mount_store(chip, nothing)
        # Each of the 16 half pages is read once.
        self.assertEqual(len(chip.looks_left()), 24)


class Peeks(unittest.TestCase):
    """Point 59."""

    def half_written(self):
        store = mounted()
        store.change([(key, (key,)) for key in range(8)])
        store.sync()
        store.chip.plan(["ok"] * 3 + ["during"], [])
        outcome(store.change, [(key, None) for key in range(8)])
        return store.chip

    def test_nothing_changes_but_the_looks(self):
        chip = self.half_written()
        chip.plan(["fail", "before"], [True, False, True])
        before = whole(chip)
        self.assertEqual(peek_values(chip, nothing), {key: (key,) for key in range(8)})
        self.assertEqual(chip.looks_left(), [False, True])
        chip.plan(["fail", "before"], [True, False, True])
        self.assertEqual(whole(chip), before)
        self.assertFalse(chip.powered)

    def test_no_volume(self):
        chip = Chip(24, 16)
        self.assertRaises(NoVolume, peek_values, chip, nothing)
        self.assertEqual(chip.generation, 0)

    def test_a_mount_shows_the_same(self):
        for settle in (nothing, lambda values: [(3, None), (4, (9,)), (700, (1,)), (800, None)]):
            chip = self.half_written()
            values = peek_values(chip, settle)
            self.assertEqual(list(values), sorted(values))
            self.assertEqual(values, shown(mount_store(chip, settle)))
            self.assertEqual(values, peek_values(chip, settle))

    def test_different_looks(self):
        numbers = Numbers(1)
        chip = self.half_written()
        expected = peek_values(chip, nothing)
        for _ in range(20):
            looks = [numbers.below(2) == 0 for _ in range(20)]
            other = chip.copied()
            other.plan([], looks)
            self.assertEqual(peek_values(other, nothing), expected)
            other.plan([], looks)
            self.assertEqual(shown(mount_store(other, nothing)), expected)

    def test_settling_of_values(self):
        seen = []

        def settle(values):
            seen.append(dict(values))
            values.clear()
            return [(9, (1,))]

        self.assertEqual(peek_values(formatted(), settle), {9: (1,)})
        self.assertEqual(seen, [{}])
        self.assertEqual(peek_values(planted({3: [5]}), settle), {5: value_of(5), 9: (1,)})


class Example(unittest.TestCase):
    def test_of_the_document(self):
        chip = Chip(24, 16)
        format_chip(chip)
        store = mount_store(chip, lambda values: [])
        store.change([(5, (1, 2, 3)), (70, (4,))])
        self.assertEqual(store.keys_shown(), [5, 70])
        store.sync()
        self.assertEqual(chip.state(3, 2), ("full", ("mark", 2)))


if __name__ == "__main__":
    unittest.main()

"""Points 43, 46, 48, 49, 51 to 53 and 60: the state of a store, its buffer, its journal and what it shows."""

import unittest

from model import told
from samples import all_states, whole
from stores import attributes, bare_store, erased, formatted, full_pages, mounted, nothing, outcome, root_of, shown
from stores import whole_store

from tidemark.chip.chip import Chip
from tidemark.errors import PowerCut, WornOut
from tidemark.index.index import Index
from tidemark.store.starting import format_chip, mount_store
from tidemark.store.store import Store


def ones(first, many):
    """Changes of this many keys."""
    return [(key, (key,)) for key in range(first, first + many)]


def item(index, last, key, value, epoch=2):
    return ("item", epoch, index, last, key, value)


def states_in(chip, block):
    return [chip.state(block, page)[0] for page in range(chip.shape[1])]


class Beginning(unittest.TestCase):
    """The state of a store (point 43), as the constructor sets it."""

    def test_attributes(self):
        chip = Chip(24, 16)
        chip.generation = 6
        index = Index()
        root = root_of(24, {0: 3, 1: 2, 5: 6}, journal=(1, 0), recorded={9: 4}, bad=(8, 7))
        store = Store(chip, 9, root, index, 4)
        self.assertEqual(
            attributes(store),
            {
                "shape": (24, 16),
                "root": root,
                "home": 9,
                "anchor": 9,
                "position": 4,
                "buffer": {},
                "places": [3, 2, None, None, None, 6] + [None] * 18,
                "recorded": [1] * 9 + [4] + [1] * 14,
                "bad": [8, 7],
                "clean": [],
                "item_count": 0,
                "journal_at": (0, 0),
                "unmarked": False,
                "head": None,
                "generation": 6,
            },
        )
        self.assertIs(store.index, index)
        self.assertIs(store.chip, chip)

    def test_lists_of_its_own(self):
        store = bare_store()
        root = store.root
        store.places[0] = 20
        store.recorded[0] = 9
        store.bad.append(4)
        self.assertEqual((root[5][0], root[6][0], root[7]), (1, 1, ()))

    def test_behind_a_mount(self):
        store = mounted()
        self.assertEqual((store.home, store.anchor, store.position), (0, 0, 4))
        self.assertEqual((store.journal_at, store.item_count, store.unmarked), ((0, 0), 0, False))
        self.assertEqual((store.head, store.clean, store.buffer, store.generation), (None, [], {}, 2))


class Buffer(unittest.TestCase):
    """Point 51."""

    def test_below_8_keys_nothing_is_written(self):
        store = mounted()
        before = whole(store.chip)
        store.change(ones(0, 4))
        store.change(ones(100, 3))
        store.change([])
        self.assertEqual(store.buffer, {key: (key,) for key in (0, 1, 2, 3, 100, 101, 102)})
        self.assertEqual(whole(store.chip), before)
        self.assertEqual(store.index.keys_sorted(), [])

    def test_8_keys_are_flushed(self):
        store = mounted()
        store.change(ones(10, 7))
        store.change(ones(3, 1))
        contents = [item(1, False, 3, (3,))] + [item(at + 2, at == 6, at + 10, (at + 10,)) for at in range(7)]
        self.assertEqual(full_pages(store.chip, 3), contents)
        self.assertEqual((store.buffer, store.item_count, store.journal_at, store.unmarked), ({}, 8, (0, 8), True))
        self.assertEqual(store.index.find(3), ((2, 0), (3,)))
        self.assertEqual(store.index.find(16), ((2, 7), (16,)))

    def test_many_keys_at_once(self):
        store = mounted()
        store.change(ones(10, 11))
        self.assertEqual((store.item_count, store.journal_at), (11, (0, 11)))

    def test_later_changes_replace_earlier_ones(self):
        store = mounted()
        store.change([(5, (1,)), (6, (1,)), (7, None)])
        store.change([(5, None), (6, (2,)), (7, (3,))])
        self.assertEqual(store.buffer, {5: None, 6: (2,), 7: (3,)})
        store.change(ones(20, 4))
        self.assertEqual((len(store.buffer), store.item_count), (7, 0))
        store.change([(5, (9,)), (20, None)])
        self.assertEqual((len(store.buffer), store.item_count), (7, 0))
        store.change([(21, (1,)), (30, None)])
        self.assertEqual((store.buffer, store.item_count), ({}, 8))

    def test_lists_are_not_kept(self):
        store = mounted()
        changes = ones(1, 3)
        store.change(changes)
        changes.clear()
        self.assertEqual(store.keys_shown(), [1, 2, 3])


class Flushing(unittest.TestCase):
    """Points 49 and 52."""

    def test_dropping_items(self):
        store = mounted()
        store.change(ones(0, 8))
        store.change([(0, None), (1, (7,)), (500, None)])
        store.sync()
        items = [item(9, False, 0, None), item(10, False, 1, (7,)), item(11, True, 500, None), ("mark", 11)]
        self.assertEqual(full_pages(store.chip, 3)[8:], items)
        self.assertEqual(store.index.keys_sorted(), list(range(1, 8)))
        self.assertEqual(store.index.find(1), ((2, 9), (7,)))
        self.assertIsNone(store.index.root_address())

    def test_over_both_journal_blocks(self):
        store = mounted()
        store.change(ones(0, 14))
        self.assertEqual(store.journal_at, (0, 14))
        store.change(ones(20, 8))
        self.assertEqual(store.journal_at, (1, 6))
        self.assertEqual(store.index.find(21)[0], (2, 15))
        self.assertEqual(store.index.find(22)[0], (3, 0))
        self.assertEqual(full_pages(store.chip, 4)[0], item(17, False, 22, (22,)))

    def test_as_many_changes_as_there_is_room(self):
        for many, epoch in ((31, 2), (32, 3)):
            store = mounted()
            store.change(ones(0, many))
            self.assertEqual((store.root[2], store.unmarked), (epoch, epoch == 2))
        store = mounted()
        store.change(ones(0, 31))
        self.assertEqual((store.journal_at, store.item_count), ((1, 15), 31))
        store.sync()
        self.assertEqual((store.journal_at, store.root[2]), ((2, 0), 2))
        self.assertEqual(full_pages(store.chip, 4)[15], ("mark", 31))
        store.change([(1, (9,))])
        store.sync()
        self.assertEqual((store.journal_at, store.root[2], store.item_count), ((0, 0), 3, 0))
        self.assertEqual(shown(store), {**{key: (key,) for key in range(31)}, 1: (9,)})

    def test_room_from_a_position(self):
        rows = [((1, 7), 8, 2), ((1, 8), 8, 3), ((0, 15), 16, 2), ((0, 15), 17, 3), ((1, 15), 8, 3), ((2, 0), 8, 3)]
        for position, many, epoch in rows:
            store = mounted()
            store.journal_at = position
            store.change(ones(0, many))
            self.assertEqual(store.root[2], epoch, position)

    def test_program_that_fails(self):
        store = mounted()
        store.chip.plan(["ok", "fail", "fail"], [])
        store.change(ones(0, 8))
        pages = full_pages(store.chip, 3)
        self.assertEqual(pages[:4], [item(1, False, 0, (0,)), "spoilt", "spoilt", item(2, False, 1, (1,))])
        self.assertEqual(pages[9:], [item(8, True, 7, (7,))])
        self.assertEqual((store.bad, store.item_count, store.journal_at), ([3], 8, (0, 10)))
        self.assertEqual(store.index.find(1)[0], (2, 3))
        self.assertEqual(mount_store(store.chip, nothing).keys_shown(), [])

    def test_program_that_fails_at_the_end_of_a_block(self):
        store = mounted()
        store.journal_at = (0, 15)
        store.chip.plan(["fail", "ok", "fail"], [])
        store.change(ones(0, 8))
        self.assertEqual((store.bad, store.journal_at), ([3, 4], (1, 9)))
        self.assertEqual(store.index.find(0)[0], (3, 0))
        self.assertEqual(store.index.find(1)[0], (3, 2))

    def test_room_that_becomes_0(self):
        store = mounted()
        store.change(ones(100, 8))
        store.sync()
        store.journal_at = (1, 7)
        store.chip.plan(["ok"] * 7 + ["fail"], [])
        store.change(ones(0, 8))
        # The items that were written do not count for the commit, which writes all changes.
        self.assertEqual((store.root[2], store.journal_at, store.item_count, store.unmarked), (3, (0, 0), 0, False))
        self.assertEqual((store.buffer, store.bad), ({}, [4]))
        self.assertEqual(states_in(store.chip, 4)[7:], ["full"] * 7 + ["spoilt", "blank"])
        self.assertEqual([store.index.find(key)[0] for key in range(8)], [(0, page) for page in range(8)])
        self.assertEqual(store.index.find(100), ((2, 0), (100,)))

    def test_room_that_becomes_0_behind_the_last_change(self):
        store = mounted()
        store.journal_at = (1, 6)
        store.chip.plan(["fail"], [])
        store.change(ones(0, 8))
        self.assertEqual((store.root[2], store.journal_at, store.unmarked), (2, (1, 15), True))

    def test_index_as_it_was_before(self):
        store = mounted()
        store.change(ones(0, 8))
        store.journal_at = (1, 13)
        store.chip.plan(["ok", "fail"], [])
        store.change([(5, None), (6, (9,))])
        store.sync()
        self.assertEqual((store.root[2], store.index.keys_sorted()), (3, [0, 1, 2, 3, 4, 6, 7]))
        self.assertEqual([store.index.find(key)[0] for key in (4, 6, 7)], [(2, 4), (0, 0), (2, 7)])

    def test_epoch_of_the_root(self):
        store = mounted()
        for many in range(5):
            store.change(ones(0, 8))
        self.assertEqual(store.root[2], 3)
        block = store.places[store.root[4][0]]
        self.assertEqual(full_pages(store.chip, block)[0], item(1, False, 0, (0,), 3))


class Syncing(unittest.TestCase):
    """Point 53."""

    def test_mark_behind_the_items(self):
        store = mounted()
        store.change(ones(5, 2))
        store.sync()
        contents = [item(1, False, 5, (5,)), item(2, True, 6, (6,)), ("mark", 2)]
        self.assertEqual(full_pages(store.chip, 3), contents)
        self.assertEqual((store.buffer, store.unmarked, store.journal_at), ({}, False, (0, 3)))

    def test_nothing_to_mark(self):
        store = mounted()
        before = whole(store.chip)
        store.sync()
        self.assertEqual(whole(store.chip), before)
        store.change(ones(5, 2))
        store.sync()
        before = whole(store.chip)
        store.sync()
        self.assertEqual(whole(store.chip), before)

    def test_batch_that_was_flushed_before(self):
        store = mounted()
        store.change(ones(0, 8))
        store.sync()
        self.assertEqual(full_pages(store.chip, 3)[8:], [("mark", 8)])
        store.change(ones(0, 8))
        store.change(ones(20, 1))
        store.sync()
        self.assertEqual(full_pages(store.chip, 4)[2:], [("mark", 17)])

    def test_mark_that_fails(self):
        store = mounted()
        store.change(ones(5, 2))
        store.chip.plan(["ok", "ok", "fail"], [])
        store.sync()
        self.assertEqual((store.unmarked, store.journal_at, store.bad), (False, (0, 3), [3]))
        before = whole(store.chip)
        store.sync()
        self.assertEqual(whole(store.chip), before)
        self.assertEqual(mount_store(store.chip, nothing).keys_shown(), [5, 6])

    def test_commit_needs_no_mark(self):
        store = mounted()
        store.journal_at = (1, 15)
        store.change(ones(0, 3))
        store.sync()
        self.assertEqual((store.unmarked, store.journal_at), (False, (0, 0)))
        journal = [store.places[logical] for logical in store.root[4]]
        self.assertEqual([full_pages(store.chip, block) for block in journal], [[], []])


class BadBlocks(unittest.TestCase):
    """Point 46."""

    def test_once_in_the_list(self):
        store = mounted()
        store.chip.plan(["fail"] * 3, [])
        store.change(ones(0, 8))
        self.assertEqual(store.bad, [3])

    def test_still_used_as_before(self):
        store = mounted()
        store.chip.plan(["fail"], [])
        store.change(ones(0, 8))
        self.assertEqual(states_in(store.chip, 3)[:9], ["spoilt"] + ["full"] * 8)


class Cuts(unittest.TestCase):
    """Point 48."""

    def test_cut_items(self):
        for fate, states in (("before", ["full", "blank"]), ("during", ["full", "shaky"])):
            store = mounted()
            store.chip.plan(["ok", fate], [])
            self.assertRaises(PowerCut, store.change, ones(0, 8))
            self.assertEqual(states_in(store.chip, 3)[:3], states + ["blank"])
            self.assertEqual((store.bad, store.journal_at, store.item_count), ([], (0, 1), 1))
            self.assertEqual(store.keys_shown(), list(range(8)))
            self.assertEqual(store.chip.refused, 0)

    def test_cut_marks(self):
        store = mounted()
        store.change(ones(0, 3))
        store.chip.plan(["ok"] * 3 + ["during"], [])
        self.assertRaises(PowerCut, store.sync)
        self.assertEqual((store.unmarked, store.journal_at), (True, (0, 3)))

    def test_refused_programs(self):
        store = mounted()
        store.chip.plan(["before"], [])
        self.assertRaises(PowerCut, store.change, ones(0, 8))
        self.assertRaises(PowerCut, store.sync)
        self.assertEqual((store.chip.refused, store.bad, store.journal_at), (1, [], (0, 0)))

    def test_cut_erases(self):
        for fate, half in (("before", "blank"), ("during", "half")):
            store = mounted()
            store.journal_at = (1, 15)
            store.change(ones(0, 3))
            store.chip.plan(["ok", fate], [])
            recorded = list(store.recorded)
            self.assertRaises(PowerCut, store.sync)
            recorded[1] += 1
            self.assertEqual((store.recorded, store.bad, store.clean), (recorded, [], [1]))
            self.assertEqual(states_in(store.chip, 2)[0], half)

    def test_refused_erases(self):
        store = mounted()
        store.journal_at = (1, 15)
        store.change(ones(0, 3))
        store.chip.powered = False
        recorded = list(store.recorded)
        self.assertRaises(PowerCut, store.sync)
        self.assertEqual((store.recorded, store.bad, store.chip.refused), (recorded, [], 1))


class Shown(unittest.TestCase):
    """Point 60."""

    def test_index_and_buffer(self):
        store = mounted()
        store.change(ones(0, 8))
        store.change([(0, None), (1, (77,)), (50, ()), (60, None)])
        self.assertEqual(store.keys_shown(), [1, 2, 3, 4, 5, 6, 7, 50])
        self.assertEqual([store.look(key) for key in (0, 1, 2, 50, 60, 61)], [None, (77,), (2,), (), None, None])
        store.change([(0, (8,)), (60, (9,))])
        self.assertEqual(store.keys_shown(), [0, 1, 2, 3, 4, 5, 6, 7, 50, 60])
        before = shown(store)
        store.sync()
        self.assertEqual(shown(store), before)

    def test_looking_changes_nothing(self):
        store = mounted()
        store.change(ones(0, 9))
        store.change(ones(4, 3))
        before = whole_store(store), whole(store.chip)
        store.keys_shown().clear()
        store.look(4)
        store.look(77)
        self.assertEqual((whole_store(store), whole(store.chip)), before)


class Twins(unittest.TestCase):
    def busy(self):
        store = mounted()
        store.change(ones(0, 9))
        store.journal_at = (0, 12)
        store.chip.plan(["fail"], [])
        store.change(ones(40, 8))
        store.change([(3, None), (70, (1,))])
        store.clean = [9]
        store.chip.erase(9)
        store.anchor = 12
        store.position = 8
        store.head = (7, 3)
        store.places[7] = 19
        return store

    def test_same_state(self):
        store = self.busy()
        chip = store.chip.copied()
        twin = store.twin(chip)
        self.assertEqual(whole_store(twin), whole_store(store))
        self.assertIs(twin.chip, chip)
        self.assertIsInstance(twin, Store)

    def test_neither_changes_with_the_other(self):
        store = self.busy()
        for changed, kept in ((store, store.twin(store.chip.copied())), (store.twin(store.chip.copied()), store)):
            before = whole_store(kept), whole(kept.chip)
            changed.buffer[5] = (1,)
            changed.places[20] = 20
            changed.recorded[2] += 5
            changed.bad.append(17)
            changed.clean.append(18)
            changed.index.put(999, (0, 0), ())
            changed.index.drop(0)
            self.assertEqual((whole_store(kept), whole(kept.chip)), before)

    def test_equal_deeds_give_equal_chips(self):
        store = mounted()
        store.change(ones(0, 5))
        twin = store.twin(store.chip.copied())
        for call in (store, twin):
            for first in range(0, 200, 9):
                call.change(ones(first, 5))
                call.change([(first - first % 4, None)])
            call.sync()
        self.assertGreater(store.root[2], 4)
        self.assertEqual(whole_store(twin), whole_store(store))
        self.assertEqual(all_states(twin.chip), all_states(store.chip))
        self.assertEqual(erased(twin.chip), erased(store.chip))

    def test_twin_of_a_store_that_is_not_current(self):
        store = mounted()
        store.chip.generation += 1
        twin = store.twin(store.chip.copied())
        self.assertEqual((twin.generation, twin.is_current()), (2, False))


class Worn(unittest.TestCase):
    """Point 32, of a store."""

    def test_more_bad_blocks_than_spare_ones(self):
        for blocks, spare in ((24, 2), (31, 2), (32, 3), (48, 4)):
            store = bare_store(shape=(blocks, 16))
            self.assertIs(store.is_worn(), False)
            store.bad = list(range(5, 5 + spare))
            self.assertIs(store.is_worn(), False)
            store.bad = list(range(5, 6 + spare))
            self.assertIs(store.is_worn(), True)

    def test_behind_a_format_and_a_mount(self):
        chip = Chip(24, 16)
        chip.plan(["ok", "fail"] + ["ok"] * 10 + ["fail"], [])
        format_chip(chip)
        store = mount_store(chip, nothing)
        self.assertEqual((store.bad, store.is_worn()), ([1, 12], False))
        chip.plan(["fail"], [])
        store.change(ones(0, 8))
        self.assertTrue(store.is_worn())
        self.assertFalse(mount_store(formatted(), nothing).is_worn())
        again = mount_store(chip, nothing)
        # The root that this mount read does not tell the block that failed later.
        self.assertEqual((again.bad, again.is_worn()), ([1, 12], False))


class Current(unittest.TestCase):
    def test_later_mounts_and_formats(self):
        for later in (lambda chip: mount_store(chip, nothing), format_chip):
            store = mounted()
            store.change(ones(0, 3))
            self.assertIs(store.is_current(), True)
            later(store.chip)
            self.assertIs(store.is_current(), False)

    def test_later_mounts_that_fail(self):
        for later in (lambda chip: mount_store(chip, nothing), format_chip):
            store = mounted()
            store.chip.plan(["before"], [])
            self.assertEqual(outcome(later, store.chip), "cut")
            self.assertFalse(store.is_current())

    def test_other_chips(self):
        store = mounted()
        mount_store(store.chip.copied(), nothing)
        self.assertTrue(store.is_current())


class NoBlocks(unittest.TestCase):
    def test_worn_out(self):
        store = mounted()
        store.journal_at = (1, 15)
        store.change(ones(0, 3))
        store.chip.plan(["fail"] * 30, [])
        self.assertRaises(WornOut, store.sync)
        # 21 blocks are neither the anchor nor the journal.
        self.assertEqual(len(store.bad), 21)
        self.assertEqual(store.bad, [1, 2] + list(range(5, 24)))
        self.assertEqual(len(store.chip.fates_left()), 9)
        self.assertEqual([store.recorded[block] for block in (0, 1, 3, 23)], [1, 2, 2, 2])
        self.assertEqual(told(store.index)["keys"], [])


if __name__ == "__main__":
    unittest.main()

"""Point 56: moves of blocks and of the anchor."""

import unittest

from samples import whole
from stores import full_pages, nothing, outcome, planted, shown, value_of

from tidemark.errors import PowerCut
from tidemark.store.found import found_index, standing_root
from tidemark.store.moving import level
from tidemark.store.starting import mount_store
from tidemark.store.store import Store

SPREAD = {3: [5, 6, 70], 4: [4096, 4097]}


def begun(chip, position=2):
    """A store as a mount begins it, before its levelling."""
    scan = chip.scan()
    home, root = standing_root(scan)
    return Store(chip, home, root, found_index(scan, root), position)


def uneven(wear, **more):
    """A chip whose blocks were erased 10 times, but for those that are told; 20 is hot."""
    return planted(SPREAD, recorded={**dict.fromkeys(range(24), 10), 20: 40, **wear}, **more)


def levelled(chip, fates=(), position=2):
    """A store on the chip behind its levelling, which met these fates."""
    store = begun(chip, position)
    chip.plan(list(fates), [])
    level(store)
    return store


class Moves(unittest.TestCase):
    def test_live_pages_on_the_same_pages(self):
        chip = uneven({4: 1})
        source = full_pages(chip, 4)
        store = levelled(chip)
        # 1 and 2 hold the journal, so 6 is the first free block.
        self.assertEqual(store.places[3], 6)
        self.assertEqual(full_pages(chip, 6), source)
        self.assertEqual(store.recorded, [10] * 4 + [1, 10, 11] + [10] * 13 + [40, 10, 10, 10])

    def test_root_of_a_move(self):
        chip = uneven({4: 1})
        before = begun(chip).root
        store = levelled(chip)
        places = before[5][:3] + (6,) + before[5][4:]
        root = before[:1] + (6,) + before[2:5] + (places, tuple(store.recorded), ())
        self.assertEqual((store.root, store.home, store.anchor, store.position), (root, 0, 0, 4))
        self.assertEqual(full_pages(chip, 0)[2:], [root, ("mark", 6)])

    def test_pages_that_are_not_live(self):
        chip = planted({4: [4096, 4097]}, recorded={**dict.fromkeys(range(24), 10), 20: 40, 5: 1})
        store = begun(chip)
        store.index.drop(4096)
        level(store)
        self.assertEqual(full_pages(chip, 4), [None, ("item", 0, 0, False, 4097, value_of(4097))])
        self.assertEqual((store.places[4], chip.state(4, 0)), (4, ("blank",)))

    def test_nodes_move_too(self):
        chip = uneven({3: 1})
        source = full_pages(chip, 3)
        self.assertEqual({content[0] for content in source}, {"node"})
        self.assertEqual(full_pages(chip, levelled(chip).places[2]), source)

    def test_items_of_an_old_journal_move_as_they_are(self):
        chip = uneven({4: 1})
        store = begun(chip)
        content = ("item", 7, 3, True, 8, (1, 2))
        self.assertEqual(chip.program(4, 9, content), "done")
        store.index.put(8, (3, 9), (1, 2))
        level(store)
        self.assertEqual(full_pages(chip, 6)[9], content)

    def test_block_that_moved_becomes_free(self):
        chip = uneven({4: 1})
        store = levelled(chip)
        self.assertNotIn(4, store.places)
        self.assertEqual(chip.erases(4), 0)

    def test_nothing_wanted(self):
        chip = uneven({20: 26})
        before = whole(chip)
        store = levelled(chip)
        self.assertEqual((whole(chip), store.root[1]), (before, 5))

    def test_several_moves(self):
        chip = uneven({4: 1, 5: 3})
        store = levelled(chip)
        # Behind the first move block 4 is free and has the least wear, so nothing more is wanted.
        self.assertEqual((store.root[1], store.places[3], store.places[4]), (6, 6, 5))
        chip = uneven({4: 1, 5: 1})
        self.assertEqual(levelled(chip).root[1], 7)

    def test_target_is_a_clean_block_first(self):
        chip = uneven({4: 1})
        store = begun(chip)
        chip.erase(9)
        store.clean.append(9)
        level(store)
        self.assertEqual((store.places[3], store.clean, store.recorded[9]), (9, [], 10))

    def test_values_are_the_same(self):
        chip = uneven({3: 1, 4: 1, 5: 1, 0: 1})
        store = levelled(chip)
        self.assertEqual(shown(store), {key: value_of(key) for key in (5, 6, 70, 4096, 4097)})
        again = mount_store(chip, nothing)
        self.assertEqual(shown(again), shown(store))
        self.assertEqual(chip.refused, 0)


class Failures(unittest.TestCase):
    def test_program_that_fails(self):
        for done in range(3):
            chip = uneven({4: 1})
            source = full_pages(chip, 4)
            store = levelled(chip, ["ok"] * (1 + done) + ["fail"])
            self.assertEqual(full_pages(chip, 6), source[:done] + ["spoilt"])
            self.assertEqual((full_pages(chip, 7), store.places[3], store.bad), (source, 7, [6]))
            self.assertEqual((store.root[7], store.recorded[6], store.recorded[7]), ((6,), 11, 11))
            self.assertEqual(store.root[1], 6)

    def test_erase_that_fails(self):
        chip = uneven({4: 1})
        store = levelled(chip, ["fail"])
        self.assertEqual((store.places[3], store.bad, store.recorded[6]), (7, [6], 11))

    def test_more_failures_than_spare_blocks(self):
        chip = uneven({4: 1})
        store = levelled(chip, ["ok", "fail"] * 5)
        self.assertEqual((store.places[3], store.bad), (11, [6, 7, 8, 9, 10]))

    def test_no_block_left(self):
        chip = uneven({4: 1})
        store = begun(chip)
        chip.plan(["fail"] * 60, [])
        self.assertEqual(outcome(level, store), "worn")
        self.assertEqual((store.root[1], store.places[3]), (5, 4))

    def test_cuts(self):
        # An erase, three programs, the root and its mark.
        for deeds in range(6):
            for fate in ("before", "during"):
                chip = uneven({4: 1})
                store = begun(chip)
                chip.plan(["ok"] * deeds + [fate], [])
                self.assertRaises(PowerCut, level, store)
                self.assertEqual((store.bad, store.root[1], chip.refused), ([], 5, 0))
                chip.plan([], [False] * 9)
                values = shown(mount_store(chip, nothing))
                self.assertEqual(values, {key: value_of(key) for key in (5, 6, 70, 4096, 4097)})


class Anchors(unittest.TestCase):
    def test_new_anchor(self):
        chip = uneven({0: 1})
        before = begun(chip).root
        store = levelled(chip)
        root = before[:1] + (6,) + before[2:6] + (tuple(store.recorded), ())
        self.assertEqual((store.root, store.home, store.anchor, store.position), (root, 6, 6, 2))
        self.assertEqual(full_pages(chip, 6), [root, ("mark", 6)])
        self.assertEqual(store.recorded[6], 11)

    def test_anchor_without_two_pages_before_a_move(self):
        chip = planted(SPREAD, recorded={**dict.fromkeys(range(24), 10), 20: 40, 4: 1}, first_page=14)
        store = levelled(chip, [], 16)
        # The new anchor is taken before the target.
        self.assertEqual((store.anchor, store.home, store.position, store.places[3]), (6, 6, 2, 7))
        self.assertEqual(full_pages(chip, 6), [store.root, ("mark", 6)])

    def test_anchor_with_two_pages(self):
        chip = planted(SPREAD, recorded={**dict.fromkeys(range(24), 10), 20: 40, 4: 1}, first_page=12)
        store = levelled(chip, [], 14)
        self.assertEqual((store.anchor, store.position, store.places[3]), (0, 16, 6))


class Mounts(unittest.TestCase):
    def test_levelling_before_the_items(self):
        chip = uneven({4: 1})
        self.assertEqual(chip.program(1, 0, ("item", 3, 1, True, 5, (99,))), "done")
        self.assertEqual(chip.program(1, 1, ("mark", 1)), "done")
        store = mount_store(chip, nothing)
        self.assertEqual(store.look(5), (99,))
        # The value that the item replaces was still moved.
        self.assertEqual(full_pages(chip, 6)[0], ("item", 0, 0, False, 5, value_of(5)))

    def test_levelling_behind_a_commit(self):
        chip = uneven({})
        store = mount_store(chip, nothing)
        store.recorded[4] = 1
        store.change([(key, (1,)) for key in range(200, 208)])
        store.journal_at = (2, 0)
        root = store.root[1]
        store.change([(key, (2,)) for key in range(200, 208)])
        self.assertEqual((store.root[1], store.places[3] == 4), (root + 2, False))

    def test_at_most_3_times_the_blocks_and_3(self):
        chip = uneven({4: 1})
        store = begun(chip)
        # No erase changes this list, so a move is wanted again and again.
        store.recorded = Stuck(store.recorded)
        level(store)
        self.assertEqual(store.root[1], 5 + 3 * 24 + 3)


class Stuck(list):
    """A list whose entries stay, except that the moved block always has the least one."""

    least = 4

    def __setitem__(self, at, entry):
        super().__setitem__(self.least, 10)
        self.least = at
        super().__setitem__(at, 1)


if __name__ == "__main__":
    unittest.main()

"""Points 45, 47, 54 and 55: roots, blocks that are taken and opened, and commits."""

import unittest

from samples import whole
from stores import erased, full_pages, mounted, nothing, outcome, planted, root_of, shown, value_of, whole_store

from tidemark.errors import PowerCut, WornOut
from tidemark.store.starting import mount_store

NODES = ["node", "node", "node", "node"]


def leaf(key, value=None):
    return ("item", 0, 0, False, key, value_of(key) if value is None else value)


def near_commit(blocks=24, pages=16):
    """A mounted store whose next flush is a commit."""
    store = mounted(blocks, pages)
    store.journal_at = (2, 0)
    return store


def committed(store, changes):
    """What a sync that makes a commit of the changes returns."""
    store.journal_at = (2, 0)
    store.change(changes)
    return outcome(store.sync)


def some(keys):
    return [(key, value_of(key)) for key in keys]


def kinds(chip, block):
    return [content[0] if isinstance(content, tuple) else content for content in full_pages(chip, block)]


class Commits(unittest.TestCase):
    """Point 54, on a chip that was just formatted and mounted: 0 is the anchor, 3 and 4 are the journal."""

    def test_what_is_written(self):
        store = near_commit()
        committed(store, [(5, (1,)), (70, (2, 3))])
        nodes = [
            ("node", 0, tuple((0, 0) if child == 5 else None for child in range(32))),
            ("node", 0, tuple((0, 1) if child == 6 else None for child in range(32))),
            ("node", 1, tuple({0: (0, 2), 2: (0, 3)}.get(child) for child in range(32))),
            ("node", 2, ((0, 4),) + (None,) * 31),
            ("node", 3, ((0, 5),) + (None,) * 31),
        ]
        self.assertEqual(full_pages(store.chip, 1), [leaf(5, (1,)), leaf(70, (2, 3))] + nodes)
        recorded = {block: 2 for block in (1, 2, 3, 4, 5)}
        root = root_of(24, {0: 1, 1: 2, 4: 5}, number=3, epoch=3, tree=(0, 6), journal=(1, 4), recorded=recorded)
        self.assertEqual(full_pages(store.chip, 0)[4:], [root, ("mark", 3)])
        self.assertEqual((store.root, store.home, store.anchor, store.position), (root, 0, 0, 6))
        self.assertEqual(store.places, list(root[5]))
        self.assertEqual(store.recorded, erased(store.chip))
        self.assertEqual((store.clean, store.head, store.bad), ([], None, []))
        self.assertEqual((store.item_count, store.journal_at, store.unmarked), (0, (0, 0), False))
        self.assertEqual(store.index.find(70), ((0, 1), (2, 3)))
        self.assertEqual(store.index.unwritten_count(), 0)

    def test_first_commit_of_a_mount(self):
        store = mounted()
        root = root_of(24, {2: 3, 3: 4}, number=2, epoch=2, journal=(2, 3), recorded={3: 2, 4: 2})
        self.assertEqual(full_pages(store.chip, 0)[2:], [root, ("mark", 2)])
        self.assertEqual((store.root, store.places), (root, list(root[5])))

    def test_leaves_fill_several_blocks(self):
        store = near_commit()
        committed(store, some(range(0, 960, 32)))
        # 30 leaves, 30 nodes above them and one on each level above: 63 pages in 4 blocks.
        self.assertEqual([len(full_pages(store.chip, block)) for block in (1, 2, 5, 6, 7, 8)], [16, 16, 16, 15, 0, 0])
        self.assertEqual(store.places[:8], [1, 2, None, None, 5, 6, 7, 8])
        self.assertEqual((store.root[3], store.root[4]), ((5, 14), (6, 7)))
        self.assertEqual(store.recorded, erased(store.chip))

    def test_nodes_that_stay(self):
        store = near_commit()
        committed(store, some([5, 2000]))
        committed(store, [(6, (9,))])
        self.assertEqual(kinds(store.chip, store.places[store.root[3][0]]), ["item"] + NODES)
        self.assertEqual(store.index.find(2000)[0], (0, 1))
        self.assertEqual([place[:2] for place in store.index.node_addresses() if place[2][0] == 0], [(0, 62), (1, 1)])

    def test_dropped_keys(self):
        store = near_commit()
        committed(store, some([5, 70]))
        committed(store, [(70, None), (900, None)])
        self.assertEqual(shown(store), {5: value_of(5)})
        self.assertEqual(kinds(store.chip, store.places[store.root[3][0]]), NODES[:3])
        committed(store, [(5, None)])
        self.assertEqual((store.root[3], shown(store)), (None, {}))
        self.assertEqual([logical for logical in range(24) if store.places[logical] is not None], list(store.root[4]))

    def test_leaves_in_the_journal_stay(self):
        store = mounted()
        store.change(some(range(8)))
        committed(store, [(0, (9,))])
        self.assertEqual([store.index.find(key)[0] for key in (0, 1, 7)], [(0, 0), (2, 1), (2, 7)])
        # The first block of the old journal is named still, the second one holds nothing.
        self.assertEqual((store.places[2], store.places[3]), (3, None))

    def test_number_and_epoch(self):
        store = near_commit()
        for many in range(3, 7):
            committed(store, some([5]))
            self.assertEqual(store.root[1:3], (many, many))

    def test_head_is_given_up(self):
        store = near_commit()
        store.head = (2, 7)
        committed(store, some([5]))
        self.assertEqual(full_pages(store.chip, 1)[0], leaf(5))
        self.assertEqual(store.head, None)

    def test_victims_are_emptied(self):
        spread = {logical: [logical, 40 + logical] for logical in range(3, 10)}
        chip = planted({**spread, 10: [31]}, nodes_in=2)
        store = mount_store(chip, lambda values: [(31, (1,))])
        # The victims 10, 2 and 3: the key 31 is replaced, the nodes move anyway, and two leaves are written again.
        self.assertEqual(shown(store), {**{key: value_of(key) for key in store.keys_shown()}, 31: (1,)})
        self.assertEqual(store.index.find(3)[0][0], store.index.find(31)[0][0])
        self.assertNotIn(store.index.find(3)[0], [(3, 0)])
        self.assertEqual(store.index.find(4)[0], (4, 0))
        self.assertEqual(store.places[3], None)
        self.assertEqual(store.places[4], 5)


class TakenBlocks(unittest.TestCase):
    """Point 47."""

    def test_order_of_the_blocks(self):
        chip = planted({}, recorded={9: 0, 12: 0, 5: 9})
        store = mount_store(chip, nothing)
        # No page is written, so the journal takes two blocks.
        self.assertEqual([store.places[logical] for logical in store.root[4]], [9, 12])
        self.assertEqual((store.recorded[9], store.recorded[12], store.recorded[5]), (1, 1, 9))

    def test_erases_that_fail(self):
        store = near_commit(32)
        store.chip.plan(["fail", "ok", "fail", "fail"], [])
        self.assertIsNone(committed(store, some([5])))
        self.assertEqual((store.bad, store.recorded), ([1, 5, 6], erased(store.chip)))
        self.assertEqual([block for block in store.places if block is not None], [2, 7, 8])
        self.assertEqual(store.root[7], (1, 5, 6))
        self.assertEqual(full_pages(store.chip, 2)[0], leaf(5))

    def test_dead_blocks(self):
        store = near_commit()
        store.chip.plan(["fail"], [])
        store.chip.erase(1)
        self.assertIsNone(committed(store, some([5])))
        # The erase of a dead block is recorded, but the chip does not count it.
        self.assertEqual((store.bad, store.recorded[1], store.chip.erases(1)), ([1], 2, 2))
        store.bad.clear()
        store.recorded[1] = 0
        self.assertIsNone(committed(store, some([6])))
        self.assertEqual((store.bad, store.recorded[1], store.chip.erases(1)), ([1], 1, 2))

    def test_clean_blocks_come_first(self):
        store = near_commit()
        for block in (20, 9):
            store.chip.erase(block)
            store.clean.append(block)
        self.assertIsNone(committed(store, some([5])))
        self.assertEqual([block for block in store.places if block is not None], [20, 9, 1])
        self.assertEqual((store.clean, store.recorded[20], store.recorded[1], store.recorded[2]), ([], 1, 2, 1))

    def test_more_clean_blocks_than_are_taken(self):
        store = near_commit()
        for block in (20, 9, 10, 11):
            store.chip.erase(block)
            store.clean.append(block)
        self.assertIsNone(committed(store, some([5])))
        self.assertEqual((store.clean, store.recorded[1]), ([11], 1))

    def test_more_blocks_than_foreseen(self):
        store = near_commit()
        store.chip.plan(["ok"] * 3 + ["fail"] * 12, [])
        self.assertIsNone(committed(store, some([5])))
        # 3 blocks are taken at first; the head then needs a second block, so the journal takes one more.
        self.assertEqual([store.recorded[block] for block in (1, 2, 5, 6, 7)], [2, 2, 2, 2, 1])
        self.assertEqual([block for block in store.places if block is not None], [1, 2, 5, 6])
        self.assertEqual((store.bad, store.root[4]), ([1], (4, 5)))

    def test_least_logical_blocks(self):
        chip = planted({4: [5]}, nodes_in=2, places={0: 20, 7: 9}, journal=(0, 7))
        store = mount_store(chip, lambda values: [(6, ())])
        # 0, 1, 2, 4 and 7 are in the places of the old root.
        self.assertEqual([logical for logical in range(24) if store.places[logical] is not None], [3, 4, 5, 6])
        self.assertEqual(store.index.find(6)[0], (3, 0))

    def test_no_block_left(self):
        store = near_commit()
        store.chip.plan(["ok"] + ["fail"] * 40, [])
        self.assertEqual(committed(store, some([5])), "worn")
        self.assertEqual((store.clean, len(store.bad)), ([1], 20))

    def test_nothing_more_behind_a_cut(self):
        for fate in ("before", "during"):
            for deeds in range(12):
                store = near_commit()
                store.chip.plan(["ok"] * deeds + [fate], [])
                root = store.root
                self.assertEqual(committed(store, some([5])), "cut" if deeds < 10 else None, deeds)
                if deeds < 10:
                    self.assertEqual(store.root, root)
                    self.assertEqual(store.bad, [])
                    self.assertEqual(sum(store.recorded), 26 + min(deeds, 3))
                    self.assertEqual(store.keys_shown(), [5])
                    self.assertEqual(store.chip.refused, 0)


class Heads(unittest.TestCase):
    """Point 55."""

    def test_programs_that_fail(self):
        store = near_commit()
        store.chip.plan(["ok"] * 3 + ["fail", "ok", "fail", "fail"], [])
        self.assertIsNone(committed(store, some([5])))
        self.assertEqual(kinds(store.chip, 1), ["spoilt", "item", "spoilt", "spoilt"] + NODES)
        self.assertEqual((store.bad, store.index.find(5)[0], store.root[3]), ([1], (0, 1), (0, 7)))
        self.assertEqual(store.root[7], (1,))

    def test_pages_that_all_fail(self):
        store = near_commit()
        store.chip.plan(["ok"] * 3 + ["fail"] * 16, [])
        self.assertIsNone(committed(store, some([5])))
        self.assertEqual(kinds(store.chip, 1), ["spoilt"] * 16)
        self.assertEqual(kinds(store.chip, 2), ["item"] + NODES)
        # The block in which nothing stands is not in the places of the root.
        self.assertEqual((store.bad, store.places[0], store.places[1]), ([1], None, 2))
        self.assertEqual(store.index.find(5)[0], (1, 0))

    def test_last_page_of_a_block(self):
        store = near_commit()
        self.assertIsNone(committed(store, some(range(12))))
        self.assertEqual(len(full_pages(store.chip, 1)), 16)
        self.assertEqual([block for block in store.places if block is not None], [1, 2, 5])


class Roots(unittest.TestCase):
    """Point 45."""

    def test_position_grows_by_2(self):
        store = near_commit()
        for position in range(6, 18, 2):
            committed(store, some([5]))
            self.assertEqual((store.anchor, store.position), (0, position))
        self.assertEqual(kinds(store.chip, 0), ["root", "mark"] * 8)

    def test_new_anchor_without_two_pages(self):
        for pages in (16, 17):
            store = near_commit(24, pages)
            for _ in range(6):
                committed(store, some([5]))
            self.assertEqual((store.anchor, store.position), (0, 16))
            committed(store, some([5]))
            self.assertEqual((store.anchor == store.home, store.anchor == 0, store.position), (True, False, 2))
            self.assertEqual(full_pages(store.chip, store.anchor), [store.root, ("mark", 9)])
            self.assertNotIn(store.anchor, store.places)
            # The root tells its own block's last erase.
            self.assertEqual((store.recorded, list(store.root[6])), (erased(store.chip), erased(store.chip)))
            # The old anchor is free.
            self.assertEqual(outcome(store.sync), None)

    def test_program_of_the_root_that_fails(self):
        store = near_commit()
        store.chip.plan(["ok"] * 8 + ["fail"], [])
        self.assertIsNone(committed(store, some([5])))
        self.assertEqual(kinds(store.chip, 0), ["root", "mark", "root", "mark", "spoilt", None, "root", "mark"])
        self.assertEqual((store.bad, store.root[7], store.root[1], store.position), ([0], (0,), 3, 8))
        self.assertEqual(full_pages(store.chip, 0)[6:], [store.root, ("mark", 3)])

    def test_programs_of_the_root_that_fail_until_no_two_pages_are_left(self):
        store = near_commit()
        store.chip.plan(["ok"] * 8 + ["fail"] * 6, [])
        self.assertIsNone(committed(store, some([5])))
        self.assertEqual((store.bad, store.anchor, store.home, store.position), ([0], 6, 6, 2))
        self.assertEqual(full_pages(store.chip, 6), [store.root, ("mark", 3)])
        self.assertEqual((store.root[1], store.root[7], store.root[6][6]), (3, (0,), 2))
        self.assertEqual(kinds(store.chip, 0)[4:], ["spoilt", None] * 5 + ["spoilt"])
        again = mount_store(store.chip, nothing)
        self.assertEqual((again.home, again.keys_shown(), again.bad), (6, [5], [0]))

    def test_new_anchors_that_fail_too(self):
        store = near_commit()
        store.chip.plan(["ok"] * 8 + ["fail"] * 6 + ["ok"] + ["fail"] * 8, [])
        self.assertIsNone(committed(store, some([5])))
        self.assertEqual((store.bad, store.anchor, store.position), ([0, 6], 7, 2))

    def test_no_anchor_left(self):
        store = near_commit()
        store.chip.plan(["ok"] * 8 + ["fail"] * 40, [])
        self.assertRaises(WornOut, committed_plainly, store)
        self.assertEqual(store.root[1], 2)

    def test_mark_that_fails(self):
        store = near_commit()
        store.chip.plan(["ok"] * 9 + ["fail"], [])
        self.assertIsNone(committed(store, some([5])))
        self.assertEqual((store.bad, store.root[7], store.root[1], store.position), ([0], (), 3, 6))
        self.assertEqual(mount_store(store.chip, nothing).keys_shown(), [5])

    def test_cut_root_and_mark(self):
        for deeds, fate, keys in ((8, "before", []), (8, "during", []), (9, "before", []), (9, "during", [5])):
            store = near_commit()
            store.chip.plan(["ok"] * deeds + [fate], [])
            self.assertRaises(PowerCut, committed_plainly, store)
            self.assertEqual((store.root[1], store.position, store.bad), (2, 4, []))
            self.assertEqual(mount_store(store.chip, nothing).keys_shown(), keys, (deeds, fate))

    def test_bad_anchor_is_kept(self):
        store = near_commit()
        store.chip.plan(["ok"] * 8 + ["fail"], [])
        committed(store, some([5]))
        committed(store, some([6]))
        self.assertEqual((store.anchor, store.position), (0, 10))


class RecordedErases(unittest.TestCase):
    def test_erases_since_the_format(self):
        store = mounted()
        for many in range(60):
            committed(store, some([many % 7, 100 + many]) if many % 5 else [(100 + many - 3, None)])
            self.assertEqual(store.recorded, erased(store.chip))
            self.assertEqual(store.chip.refused, 0)
        self.assertGreater(max(store.recorded), 5)


class OtherStores(unittest.TestCase):
    def test_nothing_else_changes(self):
        store = near_commit()
        twin = store.twin(store.chip.copied())
        before = whole_store(twin), whole(twin.chip)
        committed(store, some(range(20)))
        self.assertEqual((whole_store(twin), whole(twin.chip)), before)


def committed_plainly(store):
    store.change(some([5]))
    store.sync()


if __name__ == "__main__":
    unittest.main()

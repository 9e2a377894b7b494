"""Points 36 to 40: what a commit writes, takes and frees, the blocks it counts with, and its victims."""

import unittest

from stores import bare_store, value_of, whole_store, write_nodes

from tidemark.space.victims import (
    available_blocks,
    blocks_freed,
    blocks_taken,
    kept_blocks,
    leaves_written,
    needed_blocks,
    victims_of,
)

FOUR = {0: 1, 1: 2, 2: 3, 3: 4}


def some_leaves():
    return bare_store(FOUR, leaves={5: (2, 0), 6: (2, 1), 70: (3, 0), 71: (0, 4)})


def data_store(many, **more):
    """A store with as many data blocks, from 2 on, each with one leaf more than the next one, and nodes in block 0."""
    places = {logical: logical + 1 for logical in range(many + 2)}
    leaves = {}
    for logical in range(2, many + 2):
        for page in range(1 + (many + 1 - logical) // 4):
            leaves[len(leaves)] = (logical, page)
    store = bare_store(places, leaves=leaves, **more)
    write_nodes(store.index, 0)
    return store


class LeavesWritten(unittest.TestCase):
    """Point 36."""

    def test_values_that_the_changes_put(self):
        store = some_leaves()
        self.assertEqual(leaves_written(store, [], []), [])
        self.assertEqual(leaves_written(store, [(6, (9,)), (8, ()), (70, None)], []), [(6, (9,)), (8, ())])

    def test_values_in_the_victims(self):
        store = some_leaves()
        self.assertEqual(leaves_written(store, [], [2]), [(5, value_of(5)), (6, value_of(6))])
        self.assertEqual(leaves_written(store, [], [3]), [(70, value_of(70))])
        self.assertEqual(leaves_written(store, [], [3, 2]), [(key, value_of(key)) for key in (5, 6, 70)])

    def test_both_by_ascending_keys(self):
        store = some_leaves()
        changes = [(4, (1,)), (6, (9,)), (70, None), (100, (2,))]
        self.assertEqual(leaves_written(store, changes, [2, 3]), [(4, (1,)), (5, value_of(5)), (6, (9,)), (100, (2,))])

    def test_nothing_changes(self):
        store = some_leaves()
        before = whole_store(store)
        changes = [(6, (9,)), (70, None)]
        for call in (leaves_written, blocks_taken, blocks_freed):
            call(store, changes, [2])
        victims_of(store, changes)
        self.assertEqual((whole_store(store), changes), (before, [(6, (9,)), (70, None)]))


class BlocksTaken(unittest.TestCase):
    """Point 37."""

    def test_no_page(self):
        store = bare_store()
        self.assertEqual(blocks_taken(store, [], []), 2)
        self.assertEqual(blocks_taken(store, [(7, None)], []), 2)

    def test_leaves_and_nodes_are_rounded_up(self):
        store = bare_store()
        for many, blocks in ((1, 3), (12, 3), (13, 4), (27, 4), (28, 4), (29, 5)):
            # Up to 32 leaves have 4 nodes.
            self.assertEqual(blocks_taken(store, [(key, ()) for key in range(many)], []), blocks, many)

    def test_pages_of_the_chip(self):
        store = bare_store(shape=(24, 20))
        for many, blocks in ((16, 3), (17, 4)):
            self.assertEqual(blocks_taken(store, [(key, ()) for key in range(many)], []), blocks)

    def test_nodes_that_are_not_written_already(self):
        store = bare_store(FOUR, leaves={key: (2, key) for key in range(0, 512, 32)})
        # 16 nodes above the keys, and one on each of 3 levels.
        self.assertEqual(blocks_taken(store, [], []), 2 + 2)
        write_nodes(store.index, 3)
        self.assertEqual(blocks_taken(store, [], []), 2)
        self.assertEqual(blocks_taken(store, [(0, (1,))], []), 3)

    def test_nodes_above_dropped_keys(self):
        store = bare_store(FOUR, leaves={5: (2, 0)})
        write_nodes(store.index, 3)
        self.assertEqual(blocks_taken(store, [(5, None)], []), 2)
        store.index.put(6, (2, 1), ())
        write_nodes(store.index, 3, 4)
        self.assertEqual(blocks_taken(store, [(5, None)], []), 3)

    def test_nodes_in_the_victims(self):
        store = bare_store(FOUR, leaves={key: (2, key) for key in range(13)})
        write_nodes(store.index, 3)
        self.assertEqual(blocks_taken(store, [], [3]), 3)
        self.assertEqual(blocks_taken(store, [], [2]), 4)
        self.assertEqual(blocks_taken(store, [(0, None)], [2]), 3)

    def test_anchor_without_two_pages(self):
        for pages, position, blocks in ((16, 12, 2), (16, 14, 2), (16, 15, 3), (16, 16, 3), (17, 14, 2), (17, 16, 3)):
            store = bare_store(shape=(24, pages), position=position)
            self.assertEqual(blocks_taken(store, [], []), blocks, (pages, position))


class BlocksFreed(unittest.TestCase):
    """Point 38."""

    def store(self):
        store = bare_store(FOUR, leaves={5: (2, 0), 6: (3, 0)})
        write_nodes(store.index, 3, 1)
        return store

    def test_what_remains(self):
        store = self.store()
        self.assertEqual(blocks_freed(store, [], []), 2)
        self.assertEqual(blocks_freed(store, [(8, (1,))], []), 2)
        self.assertEqual(blocks_freed(store, [(5, (1,))], []), 3)
        self.assertEqual(blocks_freed(store, [(5, None)], []), 3)
        self.assertEqual(blocks_freed(store, [(6, None)], []), 3)
        self.assertEqual(blocks_freed(store, [(5, None), (6, (1,))], []), 4)

    def test_victims(self):
        store = self.store()
        self.assertEqual(blocks_freed(store, [], [2]), 3)
        self.assertEqual(blocks_freed(store, [], [3]), 3)
        self.assertEqual(blocks_freed(store, [(5, (7,))], [3]), 4)

    def test_written_nodes_remain(self):
        store = bare_store(FOUR, leaves={5: (2, 0), 2000: (2, 1)})
        write_nodes(store.index, 3)
        # The nodes above 2000 alone stay where they are.
        self.assertEqual(blocks_freed(store, [(5, (1,))], []), 2)
        self.assertEqual(blocks_freed(store, [(2000, None)], []), 2)
        self.assertEqual(blocks_freed(store, [(5, (1,)), (2000, (1,))], []), 4)

    def test_leaves_in_the_journal_remain(self):
        store = self.store()
        store.index.put(9, (1, 3), ())
        self.assertEqual(blocks_freed(store, [], []), 1)
        self.assertEqual(blocks_freed(store, [(9, ())], []), 2)

    def test_bad_blocks_are_not_freed(self):
        store = self.store()
        store.bad = [1, 3, 20]
        self.assertEqual(blocks_freed(store, [], []), 1)
        self.assertEqual(blocks_freed(store, [(5, None)], []), 1)

    def test_current_places_count(self):
        store = self.store()
        store.places[0] = None
        store.places[9] = 12
        self.assertEqual(blocks_freed(store, [], []), 2)
        store.places[10] = 13
        self.assertEqual(blocks_freed(store, [], []), 3)

    def test_anchor_without_two_pages(self):
        store = self.store()
        for position, freed in ((14, 2), (15, 3), (16, 3)):
            store.position = position
            self.assertEqual(blocks_freed(store, [], []), freed)


class CountedBlocks(unittest.TestCase):
    """Point 39."""

    def test_kept_blocks(self):
        for blocks, kept in ((24, 6), (31, 6), (32, 7), (48, 8)):
            self.assertEqual(kept_blocks(bare_store(shape=(blocks, 16))), kept)

    def test_kept_blocks_with_bad_ones(self):
        store = bare_store()
        for bad, kept in (([9], 5), ([9, 8], 4), ([9, 8, 7], 4), ([9, 8, 7, 6], 4), ([0], 6), ([9, 0], 5), ([9, 8, 0], 5)):
            store.bad = bad
            self.assertEqual(kept_blocks(store), kept, bad)

    def test_anchor_and_home(self):
        store = bare_store()
        store.anchor = 7
        store.bad = [0, 3]
        self.assertEqual(kept_blocks(store), 4)
        store.bad = [3, 7]
        self.assertEqual(kept_blocks(store), 5)

    def test_needed_blocks(self):
        self.assertEqual(needed_blocks(bare_store()), 5 + 3 + 6)
        self.assertEqual(needed_blocks(bare_store(shape=(24, 32))), 4 + 3 + 6)
        self.assertEqual(needed_blocks(bare_store(shape=(48, 32))), 10 + 3 + 8)
        self.assertEqual(needed_blocks(bare_store(bad=(0, 4))), 5 + 3 + 5)

    def test_available_blocks(self):
        store = bare_store()
        self.assertEqual(available_blocks(store), 21)
        store.clean = [3, 9]
        self.assertEqual(available_blocks(store), 21)
        store.bad = [4]
        store.anchor = 5
        self.assertEqual(available_blocks(store), 19)


class Victims(unittest.TestCase):
    """Point 40."""

    def test_none_needed(self):
        self.assertEqual(victims_of(bare_store(), []), [])
        self.assertEqual(victims_of(some_leaves(), [(5, (1,))]), [])
        # 14 needed and 2 taken blocks are at most 15 available ones and 1 freed one.
        self.assertEqual(victims_of(self.one_leaf_each(6), []), [])

    def one_leaf_each(self, many, **more):
        """Data blocks from 2 on with one leaf each, the nodes in journal block 0, where they stay."""
        places = {logical: logical + 1 for logical in range(many + 2)}
        store = bare_store(places, leaves={logical: (logical, 0) for logical in range(2, many + 2)}, **more)
        write_nodes(store.index, 0)
        store.index.put(31, (0, 9), ())
        write_nodes(store.index, 0, 4)
        return store

    def test_least_number_that_will_do(self):
        # With 8 data blocks 13 are available, and block 0 is not freed: 14 + 3 > 13 + 1 + k for k < 3.
        for many, needed in ((7, 2), (8, 3), (9, 4), (10, 5), (12, 7)):
            store = self.one_leaf_each(many)
            found = victims_of(store, [])
            freed = blocks_freed(store, [], found)
            taken = blocks_taken(store, [], found)
            self.assertLessEqual(14 + taken, 21 - many + freed)
            self.assertEqual(found, list(range(2, 2 + needed)), many)

    def test_none_will_do(self):
        # 6 kept blocks and 3 taken ones are more than 8 available ones.
        self.assertEqual(victims_of(self.one_leaf_each(13), []), [])
        self.assertEqual(victims_of(self.one_leaf_each(16), []), [])

    def test_all_data_blocks(self):
        store = self.one_leaf_each(3)
        store.bad = list(range(10, 19))
        # 12 needed and 3 taken blocks are more than 9 available and 1 + 3 freed ones.
        self.assertEqual(victims_of(store, []), [])
        store.bad = list(range(10, 17))
        self.assertEqual(victims_of(store, []), [2, 3, 4])

    def test_kept_blocks_are_a_bound(self):
        store = self.one_leaf_each(12)
        self.assertEqual(len(victims_of(store, [])), 7)
        store.position = 15
        # One block more is taken and freed, so the kept blocks are more than what is left.
        self.assertEqual(victims_of(store, []), [])

    def test_order_by_leaves_then_numbers(self):
        store = data_store(10)
        found = victims_of(store, [])
        self.assertEqual(found, sorted(found, key=lambda block: ((11 - block) // 4, block)))
        self.assertEqual(found[0], 8)
        self.assertGreater(len(found), 2)

    def test_dropped_keys_are_not_counted(self):
        store = self.one_leaf_each(8)
        store.index.put(20, (5, 1), ())
        store.index.put(21, (5, 2), ())
        write_nodes(store.index, 0, 8)
        self.assertEqual(victims_of(store, []), [2, 3, 4])
        self.assertEqual(victims_of(store, [(5, None), (20, None), (21, None)])[0], 5)
        self.assertEqual(victims_of(store, [(5, None), (20, None)])[:3], [2, 3, 4])

    def test_replaced_keys_are_counted(self):
        store = self.one_leaf_each(8)
        store.index.put(20, (2, 1), ())
        write_nodes(store.index, 0, 8)
        self.assertEqual(victims_of(store, [(20, (1,))])[:3], [3, 4, 5])

    def test_clean_blocks_are_available(self):
        store = self.one_leaf_each(8)
        store.clean = [20, 21]
        self.assertEqual(victims_of(store, []), [2, 3, 4])

    def test_new_list(self):
        store = self.one_leaf_each(8)
        victims_of(store, []).clear()
        self.assertEqual(victims_of(store, []), [2, 3, 4])


if __name__ == "__main__":
    unittest.main()

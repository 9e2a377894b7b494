"""Point 41: hot blocks, the move that is wanted, and a new anchor that is wanted."""

import unittest

from stores import bare_store, whole_store

from tidemark.space.levelling import anchor_wanted, hot_blocks, move_wanted

FOUR = {0: 1, 1: 2, 2: 3, 3: 4}


def uneven(recorded, **more):
    """A store whose blocks have 5 recorded erases, but for those that are told."""
    return bare_store(FOUR, recorded={**dict.fromkeys(range(24), 5), **recorded}, **more)


def wanted(store):
    return hot_blocks(store), move_wanted(store), anchor_wanted(store)


class HotBlocks(unittest.TestCase):
    def test_bound(self):
        self.assertEqual(hot_blocks(uneven({})), [])
        self.assertEqual(hot_blocks(uneven({20: 21})), [])
        self.assertEqual(hot_blocks(uneven({20: 22})), [20])
        self.assertEqual(hot_blocks(uneven({20: 22, 9: 23, 12: 21})), [9, 20])

    def test_bad_blocks_raise_the_bound(self):
        self.assertEqual(hot_blocks(uneven({20: 23}, bad=(7, 8))), [])
        self.assertEqual(hot_blocks(uneven({20: 24}, bad=(7, 8))), [20])

    def test_least_wear_of_blocks_that_are_not_bad(self):
        self.assertEqual(hot_blocks(uneven({7: 0, 20: 22}, bad=(7,))), [])
        self.assertEqual(hot_blocks(uneven({7: 0, 20: 23}, bad=(7,))), [20])
        self.assertEqual(hot_blocks(uneven({7: 0, 20: 17})), [20])

    def test_blocks_in_use_give_the_least_wear(self):
        for block in (0, 1, 3):
            self.assertEqual(hot_blocks(uneven({block: 0, 20: 17})), [20], block)

    def test_free_and_clean_blocks_alone(self):
        store = uneven({0: 40, 1: 40, 3: 40, 7: 40, 21: 40, 20: 40}, bad=(7,))
        store.clean = [21, 9]
        self.assertEqual(hot_blocks(store), [20, 21])
        store.recorded[9] = 23
        self.assertEqual(hot_blocks(store), [9, 20, 21])
        store.anchor = 20
        self.assertEqual(hot_blocks(store), [9, 21])

    def test_worn_out_store(self):
        store = uneven({20: 24}, bad=(7, 8, 9))
        self.assertEqual(wanted(store), ([], None, False))
        store.recorded[20] = 25
        store.recorded[3] = 5
        self.assertEqual(wanted(store), ([20], None, False))

    def test_all_blocks_bad(self):
        self.assertEqual(wanted(uneven({20: 50}, bad=tuple(range(24)))), ([], None, False))

    def test_new_list_and_nothing_changes(self):
        store = uneven({20: 50})
        store.clean = [9]
        before = whole_store(store)
        hot_blocks(store).clear()
        wanted(store)
        self.assertEqual(whole_store(store), before)


class Moves(unittest.TestCase):
    def test_nothing_without_a_hot_block(self):
        self.assertEqual(wanted(uneven({3: 1, 20: 17})), ([], None, False))
        self.assertEqual(wanted(uneven({3: 1, 0: 50})), ([], None, False))

    def test_block_with_the_least_wear(self):
        self.assertEqual(wanted(uneven({4: 1, 20: 18})), ([20], 3, False))
        self.assertEqual(wanted(uneven({3: 1, 20: 18})), ([20], 2, False))

    def test_least_data_block(self):
        self.assertEqual(move_wanted(uneven({3: 1, 4: 1, 20: 18})), 2)
        store = bare_store({0: 1, 1: 2, 5: 4, 9: 3}, recorded={20: 50, **dict.fromkeys(range(5, 20), 2)})
        self.assertEqual(move_wanted(store), 5)

    def test_least_wear_elsewhere(self):
        # A free block has the least wear, so no block is to make room.
        self.assertEqual(wanted(uneven({9: 1, 3: 2, 20: 40})), ([20], None, False))
        # So has the journal.
        self.assertEqual(wanted(uneven({1: 1, 3: 2, 20: 40})), ([20], None, False))

    def test_bad_block_with_the_least_wear(self):
        self.assertEqual(wanted(uneven({3: 1, 4: 2, 20: 40}, bad=(3,))), ([20], 3, False))
        self.assertEqual(wanted(uneven({8: 0, 4: 2, 20: 40}, bad=(8,))), ([20], 3, False))

    def test_spare_blocks_bad(self):
        self.assertEqual(wanted(uneven({4: 2, 20: 40}, bad=(8, 9))), ([20], 3, False))
        self.assertEqual(wanted(uneven({4: 2, 20: 40}, bad=(8, 9, 10))), ([20], None, False))

    def test_clean_block_that_is_hot(self):
        store = uneven({4: 2, 20: 40})
        store.clean = [20]
        self.assertEqual(wanted(store), ([20], 3, False))


class Anchors(unittest.TestCase):
    def test_anchor_alone_with_the_least_wear(self):
        self.assertEqual(wanted(uneven({0: 1, 20: 18})), ([20], None, True))
        self.assertEqual(wanted(uneven({0: 1, 20: 17})), ([], None, False))
        self.assertEqual(wanted(uneven({0: 2, 9: 1, 20: 40})), ([20], None, False))

    def test_anchor_beside_others(self):
        self.assertEqual(wanted(uneven({0: 1, 9: 1, 1: 1, 20: 18})), ([20], None, True))
        self.assertEqual(wanted(uneven({0: 1, 4: 1, 20: 18})), ([20], 3, False))

    def test_anchor_that_is_bad(self):
        self.assertEqual(wanted(uneven({0: 1, 9: 1, 20: 40}, bad=(0,))), ([20], None, False))

    def test_anchor_that_is_not_the_home(self):
        store = uneven({0: 1, 20: 40})
        store.anchor = 9
        self.assertEqual(wanted(store), ([20], None, False))
        store.recorded[9] = 1
        self.assertEqual(wanted(store), ([20], None, True))

    def test_worn_out_store(self):
        self.assertEqual(wanted(uneven({0: 1, 20: 40}, bad=(8, 9))), ([20], None, True))
        self.assertEqual(wanted(uneven({0: 1, 20: 40}, bad=(8, 9, 10))), ([20], None, False))


if __name__ == "__main__":
    unittest.main()

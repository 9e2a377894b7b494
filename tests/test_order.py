"""Points 34 and 35: the free blocks and the data blocks of a store."""

import unittest

from stores import bare_store, mounted, root_of, whole_store

from tidemark.space.order import data_blocks, free_blocks


class Standin:
    """What the interface lists for a store, with nothing in use but the home and the journal."""

    def __init__(self, blocks=24):
        places = (1, 2) + (None,) * (blocks - 2)
        self.shape = (blocks, 16)
        self.home = 0
        self.anchor = 0
        self.position = 2
        self.buffer = {}
        self.clean = []
        self.item_count = 0
        self.journal_at = (0, 0)
        self.unmarked = False
        self.head = None
        self.generation = 1
        self.bad = []
        self.recorded = [1] * blocks
        self.stand(places)

    def stand(self, places, journal=(0, 1)):
        """The places of the standing root and the current ones."""
        self.root = ("root", 1, 1, None, journal, places, tuple(self.recorded), tuple(self.bad))
        self.places = list(places)


class FreeBlocks(unittest.TestCase):
    """Point 34."""

    def test_ascending_numbers_with_the_same_erases(self):
        self.assertEqual(free_blocks(Standin()), list(range(3, 24)))
        self.assertEqual(free_blocks(Standin(48)), list(range(3, 48)))

    def test_ascending_erases_first(self):
        store = Standin()
        for block in range(24):
            store.recorded[block] = 30 - block
        self.assertEqual(free_blocks(store), list(range(23, 2, -1)))

    def test_erases_then_numbers(self):
        store = Standin()
        for block, many in ((5, 9), (20, 0), (3, 2), (8, 9), (21, 0)):
            store.recorded[block] = many
        rest = [block for block in range(3, 24) if block not in (3, 5, 8, 20, 21)]
        self.assertEqual(free_blocks(store), [20, 21] + rest + [3, 5, 8])

    def test_current_erases_count(self):
        store = Standin()
        store.recorded[3] = 2
        self.assertEqual(store.root[6][3], 1)
        self.assertEqual(free_blocks(store), list(range(4, 24)) + [3])

    def test_bad_blocks(self):
        store = Standin()
        store.bad = [23, 3, 10]
        self.assertEqual(free_blocks(store), [block for block in range(4, 23) if block != 10])

    def test_clean_blocks(self):
        store = Standin()
        store.clean = [23, 4]
        self.assertEqual(free_blocks(store), [3] + list(range(5, 23)))

    def test_home_and_anchor(self):
        store = Standin()
        store.home = 7
        store.anchor = 9
        self.assertEqual(free_blocks(store), [0, 3, 4, 5, 6, 8] + list(range(10, 24)))

    def test_blocks_that_only_the_places_of_the_root_name(self):
        store = Standin()
        store.stand((1, 2, 5, 6) + (None,) * 20)
        store.places = [1, 2] + [None] * 22
        self.assertEqual(free_blocks(store), [3, 4] + list(range(7, 24)))

    def test_blocks_that_only_the_current_places_name(self):
        store = Standin()
        store.places[23] = 11
        store.places[5] = 3
        self.assertEqual(free_blocks(store), [block for block in range(4, 24) if block != 11])

    def test_logical_numbers_do_not_matter(self):
        store = Standin()
        store.stand((None,) * 22 + (5, 6), (22, 23))
        self.assertEqual(free_blocks(store), [1, 2, 3, 4] + list(range(7, 24)))

    def test_no_free_block(self):
        store = Standin()
        store.bad = list(range(3, 10))
        store.clean = list(range(10, 24))
        self.assertEqual(free_blocks(store), [])

    def test_blocks_for_several_reasons(self):
        store = Standin()
        store.bad = [1, 4]
        store.clean = [5]
        store.places[7] = 4
        store.anchor = 5
        self.assertEqual(free_blocks(store), [3] + list(range(6, 24)))

    def test_nothing_changes(self):
        store = Standin()
        store.bad = [9]
        store.clean = [4]
        before = repr(vars(store))
        free_blocks(store).clear()
        self.assertEqual(repr(vars(store)), before)


class DataBlocks(unittest.TestCase):
    """Point 35."""

    def test_journal_alone(self):
        self.assertEqual(data_blocks(Standin()), [])

    def test_ascending_logical_blocks(self):
        store = Standin()
        store.stand((1, 2, 9, None, 3, 5) + (None,) * 17 + (4,))
        self.assertEqual(data_blocks(store), [2, 4, 5, 23])

    def test_journal_of_the_root(self):
        store = Standin()
        store.stand((1, 2, 9, 8, 7) + (None,) * 19, (3, 0))
        self.assertEqual(data_blocks(store), [1, 2, 4])

    def test_current_places_count(self):
        store = Standin()
        store.stand((1, 2, 9, 8) + (None,) * 20)
        store.places[2] = None
        store.places[10] = 12
        self.assertEqual(data_blocks(store), [3, 10])

    def test_physical_blocks_that_are_bad(self):
        store = Standin()
        store.stand((1, 2, 9, 8, 3, 5) + (None,) * 18)
        store.bad = [8, 2, 4]
        self.assertEqual(data_blocks(store), [2, 4, 5])

    def test_physical_block_0(self):
        store = Standin()
        store.home = store.anchor = 20
        store.stand((1, 2, 0) + (None,) * 21)
        self.assertEqual(data_blocks(store), [2])

    def test_nothing_changes(self):
        store = Standin()
        store.stand((1, 2, 9) + (None,) * 21)
        before = repr(vars(store))
        data_blocks(store).clear()
        self.assertEqual(repr(vars(store)), before)


class Stores(unittest.TestCase):
    """Both points, asked with a store as a mount begins it."""

    def test_behind_a_format_and_a_mount(self):
        store = mounted()
        self.assertEqual(store.root, root_of(24, {2: 3, 3: 4}, number=2, epoch=2, journal=(2, 3), recorded={3: 2, 4: 2}))
        self.assertEqual((free_blocks(store), data_blocks(store)), ([1, 2] + list(range(5, 24)), []))

    def test_bad_blocks_that_the_places_name(self):
        places = {0: 3, 1: 2, 2: 6, 4: 9}
        store = bare_store(places, home=7, recorded={0: 1, 1: 0, 4: 4, 8: 4}, bad=(5, 6))
        self.assertEqual(free_blocks(store), [1, 0] + list(range(10, 24)) + [4, 8])
        self.assertEqual(data_blocks(store), [4])
        store.bad = [5]
        self.assertEqual(data_blocks(store), [2, 4])

    def test_clean_blocks_and_anchor(self):
        store = bare_store()
        store.clean = [20, 4]
        store.anchor = 5
        before = whole_store(store)
        free_blocks(store).clear()
        data_blocks(store).clear()
        self.assertEqual(whole_store(store), before)
        self.assertEqual(free_blocks(store), [3] + list(range(6, 20)) + [21, 22, 23])


if __name__ == "__main__":
    unittest.main()

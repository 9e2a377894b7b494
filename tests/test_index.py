"""Points 22 to 29: the index in memory."""

import unittest

from model import Model, told

from tidemark.index.index import Index

TOP = 1048575
EMPTY = {"keys": [], "next": None, "root": None, "unwritten": 0, "nodes": [], "live": []}


def write_whole(index, block=9):
    """Write all nodes of an index, in pages of the block and the blocks behind it; return their places."""
    places = []
    found = index.next_node()
    while found is not None:
        level, number, _ = found
        index.write_node(level, number, (block + len(places) // 16, len(places) % 16))
        places.append((level, number))
        found = index.next_node()
    return places


def filled(keys, whole=True):
    """An index whose keys are in the blocks 1 and on, and whose nodes, if whole, are in blocks from 9 on."""
    index = Index()
    for at, key in enumerate(keys):
        index.put(key, (1 + at // 16, at % 16), (key % 256, 7))
    if whole:
        write_whole(index)
    return index


def written_places(index):
    return [(level, number) for level, number, _ in index.node_addresses()]


class EmptyIndex(unittest.TestCase):
    def test_empty(self):
        index = Index()
        self.assertEqual(told(index), EMPTY)
        self.assertIsNone(index.find(0))

    def test_changes_that_change_nothing(self):
        index = Index()
        index.drop(0)
        index.drop(TOP)
        index.mark_block(0)
        self.assertEqual(told(index), EMPTY)


class Putting(unittest.TestCase):
    """Points 22 to 24 and 26."""

    def test_one_key(self):
        for key in (0, 31, 32, 1024, 32768, TOP):
            index = Index()
            index.put(key, (4, 5), (1, 2, 3))
            self.assertEqual(index.keys_sorted(), [key])
            self.assertEqual(index.find(key), ((4, 5), (1, 2, 3)))
            self.assertEqual(index.unwritten_count(), 4)
            self.assertEqual(index.node_addresses(), [])
            self.assertIsNone(index.root_address())
            self.assertEqual(index.live_addresses(), [(4, 5)])
            children = [None] * 32
            children[key % 32] = (4, 5)
            self.assertEqual(index.next_node(), (0, key // 32, tuple(children)))

    def test_keys_beside_a_key_are_not_in_use(self):
        index = filled([100])
        for key in (0, 99, 101, 132, TOP):
            self.assertIsNone(index.find(key))

    def test_empty_value(self):
        index = Index()
        index.put(3, (0, 0), ())
        self.assertEqual(index.find(3), ((0, 0), ()))

    def test_put_again(self):
        index = filled([70])
        self.assertEqual(index.unwritten_count(), 0)
        index.put(70, (2, 2), (9,))
        self.assertEqual(index.keys_sorted(), [70])
        self.assertEqual(index.find(70), ((2, 2), (9,)))
        self.assertEqual((index.unwritten_count(), index.node_addresses()), (4, []))
        self.assertEqual(index.live_addresses(), [(2, 2)])

    def test_put_again_with_the_same(self):
        index = filled([70])
        address, octets = index.find(70)
        index.put(70, address, octets)
        self.assertEqual(index.unwritten_count(), 4)

    def test_put_leaves_the_nodes_of_other_keys(self):
        index = filled([0, 40, 1024, 32768])
        index.put(41, (3, 3), ())
        self.assertEqual(written_places(index), [(0, 0), (0, 32), (0, 1024), (1, 1), (1, 32), (2, 1)])
        self.assertEqual(index.unwritten_count(), 4)

    def test_keys_are_sorted(self):
        keys = [TOP, 5, 70, 0, 32768, 33]
        self.assertEqual(filled(keys).keys_sorted(), sorted(keys))


class Dropping(unittest.TestCase):
    """Point 26."""

    def test_key_that_is_not_in_use(self):
        index = filled([0, 40, 1024])
        before = told(index)
        for key in (1, 41, 1025, TOP):
            index.drop(key)
            self.assertEqual(told(index), before)

    def test_drop_the_only_key(self):
        for whole in (True, False):
            index = filled([70], whole)
            index.drop(70)
            self.assertEqual(told(index), EMPTY)
            self.assertIsNone(index.find(70))
            index.drop(70)
            self.assertEqual(told(index), EMPTY)

    def test_drop_twice(self):
        index = filled([70, 71])
        index.drop(70)
        write_whole(index, 20)
        before = told(index)
        index.drop(70)
        self.assertEqual(told(index), before)

    def test_drop_within_a_node(self):
        index = filled([70, 71])
        index.drop(70)
        self.assertEqual((index.unwritten_count(), index.node_addresses()), (4, []))
        self.assertEqual(index.next_node(), (0, 2, (None,) * 7 + ((1, 1),) + (None,) * 24))
        self.assertEqual(index.find(71), ((1, 1), (71, 7)))

    def test_drop_until_nodes_are_gone(self):
        index = filled([0, 40, 1024, 32768])
        index.drop(40)
        self.assertEqual(written_places(index), [(0, 0), (0, 32), (0, 1024), (1, 1), (1, 32), (2, 1)])
        self.assertEqual(index.unwritten_count(), 3)
        index.drop(1024)
        self.assertEqual(written_places(index), [(0, 0), (0, 1024), (1, 32), (2, 1)])
        self.assertEqual(index.unwritten_count(), 3)
        index.drop(32768)
        self.assertEqual(written_places(index), [(0, 0)])
        self.assertEqual(index.unwritten_count(), 3)
        index.drop(0)
        self.assertEqual(told(index), EMPTY)

    def test_node_that_is_gone_is_no_child(self):
        index = filled([0, 40])
        index.drop(40)
        self.assertEqual(index.next_node(), (1, 0, ((9, 0),) + (None,) * 31))


class Marking(unittest.TestCase):
    """Point 27."""

    def placed(self):
        """An index whose nodes above the key 0 are in the blocks 10, 11, 12 and 14, from level 0 on."""
        index = Index()
        index.put(0, (5, 0), (1,))
        index.put(40, (13, 0), (2,))
        index.put(32768, (6, 1), (3,))
        blocks = {(0, 0): 10, (0, 1): 20, (0, 1024): 20, (1, 0): 11, (1, 32): 21, (2, 0): 12, (2, 1): 22, (3, 0): 14}
        found = index.next_node()
        while found is not None:
            index.write_node(found[0], found[1], (blocks[found[:2]], found[0]))
            found = index.next_node()
        return index

    def check(self, block, unwritten):
        index = self.placed()
        places = written_places(index)
        keys = [index.find(key) for key in index.keys_sorted()]
        index.mark_block(block)
        self.assertEqual(written_places(index), [place for place in places if place not in unwritten])
        self.assertEqual(index.unwritten_count(), len(unwritten))
        self.assertEqual([index.find(key) for key in index.keys_sorted()], keys)
        index.mark_block(block)
        self.assertEqual(index.unwritten_count(), len(unwritten))

    def test_nodes_of_each_level(self):
        self.check(10, [(0, 0), (1, 0), (2, 0), (3, 0)])
        self.check(11, [(1, 0), (2, 0), (3, 0)])
        self.check(12, [(2, 0), (3, 0)])
        self.check(14, [(3, 0)])

    def test_several_nodes(self):
        self.check(20, [(0, 1), (0, 1024), (1, 0), (1, 32), (2, 0), (2, 1), (3, 0)])

    def test_keys_alone(self):
        for block in (5, 6, 13):
            self.check(block, [])

    def test_nothing(self):
        for block in (0, 3, 4, 23, 47):
            self.check(block, [])

    def test_nodes_that_are_not_written(self):
        index = filled([0, 32768], False)
        index.mark_block(1)
        self.assertEqual(index.unwritten_count(), 7)


class NextNode(unittest.TestCase):
    """Points 24, 25 and 28."""

    def test_order(self):
        index = filled([TOP, 0, 40, 1024, 32768, 31], False)
        self.assertEqual(
            write_whole(index),
            [
                (0, 0), (0, 1), (1, 0), (0, 32), (1, 1), (2, 0), (0, 1024), (1, 32), (2, 1),
                (0, 32767), (1, 1023), (2, 31), (3, 0),
            ],
        )
        self.assertIsNone(index.next_node())
        self.assertEqual(index.unwritten_count(), 0)

    def test_asking_changes_nothing(self):
        index = filled([0, 40], False)
        self.assertEqual(index.next_node(), index.next_node())
        self.assertEqual(index.unwritten_count(), 5)

    def test_children(self):
        index = filled([0, 31, 40], False)
        self.assertEqual(index.next_node(), (0, 0, ((1, 0),) + (None,) * 30 + ((1, 1),)))
        index.write_node(0, 0, (7, 3))
        self.assertEqual(index.next_node(), (0, 1, (None,) * 8 + ((1, 2),) + (None,) * 23))
        index.write_node(0, 1, (7, 4))
        self.assertEqual(index.next_node(), (1, 0, ((7, 3), (7, 4)) + (None,) * 30))
        index.write_node(1, 0, (7, 5))
        self.assertEqual(index.next_node(), (2, 0, ((7, 5),) + (None,) * 31))
        index.write_node(2, 0, (7, 6))
        self.assertEqual(index.next_node(), (3, 0, ((7, 6),) + (None,) * 31))
        self.assertIsNone(index.root_address())
        index.write_node(3, 0, (8, 0))
        self.assertEqual(index.root_address(), (8, 0))
        self.assertIsNone(index.next_node())

    def test_last_child(self):
        index = filled([TOP])
        index.drop(TOP)
        index.put(TOP - 31, (2, 2), ())
        self.assertEqual(index.next_node(), (0, 32767, ((2, 2),) + (None,) * 31))
        index.write_node(0, 32767, (3, 3))
        self.assertEqual(index.next_node(), (1, 1023, (None,) * 31 + ((3, 3),)))

    def test_kinds_of_values(self):
        level, number, children = filled([0], False).next_node()
        self.assertEqual((level, number), (0, 0))
        self.assertIsInstance(children, tuple)

    def test_nodes_written_before_are_passed_over(self):
        index = filled([0, 40, 32768])
        index.put(41, (2, 2), ())
        self.assertEqual(index.next_node()[:2], (0, 1))
        self.assertEqual(write_whole(index, 30), [(0, 1), (1, 0), (2, 0), (3, 0)])

    def test_root_address(self):
        index = filled([0, 40])
        self.assertEqual(index.root_address(), (9, 4))
        index.put(0, (2, 2), ())
        self.assertIsNone(index.root_address())
        write_whole(index, 30)
        self.assertEqual(index.root_address(), (30, 3))


class Addresses(unittest.TestCase):
    """Point 29."""

    def test_node_addresses(self):
        index = filled([0, 40, 32768])
        self.assertEqual(
            index.node_addresses(),
            [
                (0, 0, (9, 0)), (0, 1, (9, 1)), (0, 1024, (9, 4)), (1, 0, (9, 2)), (1, 32, (9, 5)),
                (2, 0, (9, 3)), (2, 1, (9, 6)), (3, 0, (9, 7)),
            ],
        )

    def test_live_addresses(self):
        index = Index()
        index.put(40, (4, 4), (1,))
        index.put(0, (4, 5), (2,))
        write_whole(index, 2)
        self.assertEqual(
            index.live_addresses(), [(2, 0), (2, 1), (2, 2), (2, 3), (2, 4), (4, 4), (4, 5)]
        )

    def test_live_addresses_that_occur_twice(self):
        index = Index()
        for key in (5, 6, 70):
            index.put(key, (4, 4), (1,))
        index.write_node(0, 0, (4, 4))
        index.write_node(0, 2, (3, 9))
        self.assertEqual(index.live_addresses(), [(3, 9), (4, 4), (4, 4), (4, 4), (4, 4)])

    def test_lists_are_new(self):
        index = filled([0, 40])
        before = told(index)
        for found in (index.keys_sorted(), index.node_addresses(), index.live_addresses()):
            found.clear()
        self.assertEqual(told(index), before)


class Copying(unittest.TestCase):
    def change(self, index):
        index.put(41, (2, 9), (8,))
        index.put(0, (2, 10), (9,))
        index.put(70000, (2, 11), (10,))
        index.drop(32768)
        index.mark_block(9)
        index.write_node(*index.next_node()[:2], (40, 0))

    def test_copy_is_the_same(self):
        index = filled([0, 40, 32768])
        index.put(0, (2, 2), (5,))
        twin = index.copied()
        self.assertEqual(told(twin), told(index))
        for key in (0, 1, 40, 32768):
            self.assertEqual(twin.find(key), index.find(key))

    def test_neither_changes_with_the_other(self):
        keys = (0, 40, 41, 32768, 70000)
        index = filled([0, 40, 32768])
        twin = index.copied()
        before = (told(twin), [twin.find(key) for key in keys])
        self.change(index)
        self.assertEqual((told(twin), [twin.find(key) for key in keys]), before)
        index = filled([0, 40, 32768])
        twin = index.copied()
        self.change(twin)
        self.assertEqual((told(index), [index.find(key) for key in keys]), before)


class AsTheDocumentWordsIt(unittest.TestCase):
    """Long rows of changes, each compared with the plain model."""

    KEYS = [0, 1, 31, 32, 63, 1023, 1024, 1055, 2048, 32767, 32768, 33000, 65536, 700000, TOP - 32, TOP]

    def act(self, both, draw):
        word = draw % 8
        draw //= 8
        for index in both:
            if word < 2:
                index.put(self.KEYS[draw % 16], (draw // 16 % 6, draw // 96 % 16), (draw % 256,))
            elif word == 2:
                index.drop(self.KEYS[draw % 16])
            elif word == 3:
                index.mark_block(draw % 12)
            elif index.next_node() is not None:
                index.write_node(*index.next_node()[:2], (4 + draw % 8, draw // 8 % 16))

    def test_rows_of_changes(self):
        for seed in range(12):
            both = [Index(), Model()]
            draw = seed
            for _ in range(150):
                draw = (draw * 1103515245 + 12345) % 2147483648
                self.act(both, draw // 256)
                self.assertEqual(told(both[0]), both[1].told())
                for key in self.KEYS:
                    self.assertEqual(both[0].find(key), both[1].keys.get(key))


if __name__ == "__main__":
    unittest.main()

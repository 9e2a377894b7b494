"""Point 30: loading an index."""

import unittest

from model import told

from tidemark.index.index import Index
from tidemark.index.loading import load_index

TOP = 1048575
KEYS = [0, 31, 40, 1024, 32768, TOP]


class Written:
    """An index that was written, and the readings of its pages by their addresses."""

    def __init__(self, keys):
        self.index = Index()
        self.readings = {}
        self.places = {}
        for at, key in enumerate(keys):
            value = tuple(range(at))
            self.index.put(key, (1, at), value)
            self.readings[(1, at)] = ("right", ("item", at, at + 1, at % 2 == 0, key, value))
        found = self.index.next_node()
        while found is not None:
            level, number, children = found
            address = (2 + len(self.places) // 16, len(self.places) % 16)
            self.index.write_node(level, number, address)
            self.readings[address] = ("right", ("node", level, children))
            self.places[(level, number)] = address
            found = self.index.next_node()

    def load(self):
        return load_index(self.index.root_address(), lambda address: self.readings[address])


class Loads(unittest.TestCase):
    def check_loaded(self, keys):
        written = Written(keys)
        found = written.load()
        self.assertIsNotNone(found)
        self.assertEqual(told(found), told(written.index))
        self.assertEqual(found.unwritten_count(), 0)
        for key in keys:
            self.assertEqual(found.find(key), written.index.find(key))

    def test_written_and_loaded(self):
        for keys in ([0], [TOP], [0, 1], list(range(32)), KEYS, list(range(0, 3000, 50)), [31, 32, 1023, 32767]):
            self.check_loaded(keys)

    def test_empty_values_are_values(self):
        written = Written([5])
        self.assertEqual(written.load().find(5), ((1, 0), ()))

    def test_no_address(self):
        found = load_index(None, lambda address: ("damaged",))
        self.assertEqual(
            told(found), {"keys": [], "next": None, "root": None, "unwritten": 0, "nodes": [], "live": []}
        )

    def test_loaded_index_goes_on(self):
        found = Written(KEYS).load()
        found.put(41, (9, 9), (1,))
        found.drop(TOP)
        self.assertEqual(found.unwritten_count(), 4)
        self.assertEqual(found.keys_sorted(), [0, 31, 40, 41, 1024, 32768])

    def test_every_page_is_asked_for(self):
        written = Written(KEYS)
        asked = []

        def reading_of(address):
            asked.append(address)
            return written.readings[address]

        load_index(written.index.root_address(), reading_of)
        self.assertEqual(sorted(asked), sorted(written.readings))


class DoesNotLoad(unittest.TestCase):
    def check_refused(self, address, reading):
        written = Written(KEYS)
        self.assertIn(address, written.readings)
        written.readings[address] = reading
        self.assertIsNone(written.load(), (address, reading))

    def test_readings_of_any_page(self):
        for address in Written(KEYS).readings:
            self.check_refused(address, ("blank",))
            self.check_refused(address, ("damaged",))
            self.check_refused(address, ("right", ("mark", 3)))
            self.check_refused(address, ("right", ("root", 1, 1, (2, 0), (0, 1), (None,) * 24, (1,) * 24, ())))

    def test_item_in_place_of_a_node(self):
        for (level, number), address in Written(KEYS).places.items():
            for key in (number, number * 32, level, 0):
                self.check_refused(address, ("right", ("item", 0, 0, False, key, (1,))))

    def test_node_in_place_of_an_item(self):
        for at in range(len(KEYS)):
            for level in (0, 1, 2, 3):
                self.check_refused((1, at), ("right", ("node", level, ((1, 0),) * 32)))

    def test_node_of_another_level(self):
        written = Written(KEYS)
        for address in written.places.values():
            _, (_, level, children) = written.readings[address]
            for other in (0, 1, 2, 3, 4, 255):
                if other != level:
                    self.check_refused(address, ("right", ("node", other, children)))

    def test_node_without_children(self):
        for (level, _), address in Written(KEYS).places.items():
            self.check_refused(address, ("right", ("node", level, (None,) * 32)))

    def test_node_with_another_number_of_children(self):
        written = Written(KEYS)
        for (level, _), address in written.places.items():
            children = written.readings[address][1][2]
            self.check_refused(address, ("right", ("node", level, children + (None,))))
            self.check_refused(address, ("right", ("node", level, children[:-1])))
            self.check_refused(address, ("right", ("node", level, ())))

    def test_item_of_another_key(self):
        for at, key in enumerate(KEYS):
            for other in (key + 1, key + 32, key - 1, TOP + 1):
                self.check_refused((1, at), ("right", ("item", 0, 0, False, other, (1,))))

    def test_item_without_a_value(self):
        for at, key in enumerate(KEYS):
            self.check_refused((1, at), ("right", ("item", 0, 0, False, key, None)))

    def test_child_at_another_place(self):
        written = Written([0])
        address = written.places[(0, 0)]
        for place in (1, 31):
            children = [None] * 32
            children[place] = (1, 0)
            written.readings[address] = ("right", ("node", 0, tuple(children)))
            self.assertIsNone(written.load())

    def test_page_named_by_two_children(self):
        written = Written([0])
        address = written.places[(1, 0)]
        children = (written.places[(0, 0)],) * 2 + (None,) * 30
        written.readings[address] = ("right", ("node", 1, children))
        self.assertIsNone(written.load())


if __name__ == "__main__":
    unittest.main()

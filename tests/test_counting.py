"""Point 31 and point 23: for how many pages keys are counted."""

import unittest

from tidemark.index.counting import nodes_counted, pages_counted

TOP = 1048575


def nodes_of(keys):
    return len({(level, key // 32 ** (level + 1)) for key in keys for level in range(4)})


class Counting(unittest.TestCase):
    def check(self, keys, nodes, pages):
        self.assertEqual(nodes_counted(keys), nodes, keys)
        self.assertEqual(pages_counted(keys), pages, keys)

    def test_empty(self):
        self.check([], 0, 0)

    def test_one_key(self):
        for key in (0, 1, 31, 32, 1023, 32768, TOP):
            self.check([key], 4, 9)

    def test_example_of_the_document(self):
        self.check([0, 1, 33], 5, 13)

    def test_one_node(self):
        self.check(list(range(32)), 4, 40)
        self.check(list(range(TOP - 31, TOP + 1)), 4, 40)

    def test_both_ends_of_a_node_of_each_level(self):
        self.check([0, 31], 4, 10)
        self.check([31, 32], 5, 12)
        self.check([0, 1023], 5, 12)
        self.check([1023, 1024], 6, 14)
        self.check([0, 32767], 6, 14)
        self.check([32767, 32768], 7, 16)
        self.check([0, TOP], 7, 16)

    def test_a_key_twice(self):
        self.check([5, 5], 4, 9)
        self.check([0, 1, 33, 33, 1, 0, 0], 5, 13)

    def test_order_does_not_matter(self):
        keys = [0, 31, 32, 1023, 1024, 32767, 32768, TOP, 4096, 40000]
        expected = (nodes_of(keys), len(keys) + 2 * nodes_of(keys))
        for turned in (keys, keys[::-1], keys[5:] + keys[:5], keys[::2] + keys[1::2], keys + keys):
            self.check(turned, *expected)

    def test_as_the_document_words_it(self):
        for step in (1, 2, 31, 32, 33, 1000, 1024, 4096, 33333):
            keys = [(step * at * at + at) % (TOP + 1) for at in range(60)]
            self.check(keys, nodes_of(keys), len(set(keys)) + 2 * nodes_of(keys))

    def test_list_is_not_changed(self):
        keys = [33, 0, 33]
        nodes_counted(keys)
        pages_counted(keys)
        self.assertEqual(keys, [33, 0, 33])


if __name__ == "__main__":
    unittest.main()

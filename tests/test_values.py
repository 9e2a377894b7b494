"""Points 77 to 79: keys and values, changes between trees, and settling."""

import unittest

from trees import full_directory, made, told

from tidemark.files.node import Node
from tidemark.files.tree import FileTree
from tidemark.files.values import changes_between, node_values, settle, tree_of, tree_values

ROOT = (2, 0, 1, 0, 0, 0)


def file_values(number, octets, links=1):
    return node_values(number, Node("file", tuple(octets), links=links))


class NodeValues(unittest.TestCase):
    """Point 77."""

    def test_heads(self):
        self.assertEqual(file_values(0, []), {0: (1, 0, 1, 0, 0, 0)})
        self.assertEqual(file_values(255, [], 0), {1044480: (1, 0, 0, 0, 0, 0)})
        self.assertEqual(file_values(3, [0] * 28672, 259), {12288: (1, 1, 3, 0, 112, 0)})
        self.assertEqual(node_values(1, Node("directory", ())), {4096: (2, 0, 1, 0, 0, 0)})

    def test_chunks(self):
        for many, chunks in ((1, 1), (447, 1), (448, 1), (449, 2), (896, 2), (897, 3), (28671, 64), (28672, 64)):
            octets = [1 + at % 250 for at in range(many)]
            expected = {8192: (1, 0, 1, 0, many // 256, many % 256)}
            for chunk in range(chunks):
                expected[8193 + chunk] = tuple(octets[448 * chunk : 448 * chunk + 448])
            self.assertEqual(file_values(2, octets), expected, many)
            self.assertEqual(len(expected), chunks + 1)

    def test_zeros_at_the_end(self):
        self.assertEqual(file_values(0, [5, 0, 6, 0, 0])[1], (5, 0, 6))
        self.assertEqual(file_values(0, [0, 0, 6])[1], (0, 0, 6))
        self.assertEqual(file_values(0, [0, 5]), {0: (1, 0, 1, 0, 0, 2), 1: (0, 5)})
        self.assertEqual(file_values(0, [0, 0]), {0: (1, 0, 1, 0, 0, 2)})
        octets = [7] * 447 + [0] + [0] * 448 + [0] * 440 + [9] + [0] * 7 + [3]
        self.assertEqual(
            file_values(0, octets),
            {0: (1, 0, 1, 0, 5, 65), 1: (7,) * 447, 3: (0,) * 440 + (9,), 4: (3,)},
        )

    def test_directories(self):
        node = Node("directory", (("a", 7), ("bc", 255), ("d", 0)))
        self.assertEqual(node_values(0, node)[0], (2, 0, 1, 0, 0, 10))
        self.assertEqual(node_values(0, node)[1], (1, 97, 7, 2, 98, 99, 255, 1, 100))

    def test_full_directory(self):
        entries = tuple((f"{at:032d}", at) for at in range(64))
        values = node_values(0, Node("directory", entries))
        self.assertEqual(values[0], (2, 0, 1, 0, 8, 128))
        self.assertEqual(sorted(values), [0, 1, 2, 3, 4, 5])
        self.assertEqual(values[5][-1], 63)
        self.assertEqual(sum(len(values[key]) for key in range(1, 6)), 2176)

    def test_links(self):
        self.assertEqual(node_values(1, Node("link", "/a-Z", links=2)), {4096: (3, 0, 2, 0, 0, 4), 4097: (47, 97, 45, 90)})


class TreeValues(unittest.TestCase):
    """Point 78."""

    def test_new_tree(self):
        self.assertEqual(tree_values(FileTree()), {0: ROOT})

    def test_all_nodes_without_handles(self):
        tree = made(("write", "/a", 0, [1, 2]), ("symlink", "a", "/b"), ("open_file", "/a"))
        expected = {
            0: (2, 0, 1, 0, 0, 6),
            1: (1, 97, 1, 1, 98, 2),
            4096: (1, 0, 1, 0, 0, 2),
            4097: (1, 2),
            8192: (3, 0, 1, 0, 0, 1),
            8193: (97,),
        }
        self.assertEqual(tree_values(tree), expected)
        made(("unlink", "/a"), tree=tree)
        self.assertEqual(tree_values(tree)[4096], (1, 0, 0, 0, 0, 2))

    def test_read_back(self):
        tree = made(
            *full_directory("/d", 64),
            ("write", "/x", 0, [0] * 447 + [5, 6]),
            ("truncate", "/x", 3000),
            ("write", "/y", 500, [1]),
            ("write", "/z", 0, []),
            ("symlink", "/d/e0", "/l"),
            ("symlink", "A-Z_a.z/0-9", "/m"),
            ("link", "/l", "/n"),
            ("open_file", "/y"),
            ("unlink", "/y"),
        )
        back = tree_of(tree_values(tree))
        self.assertIsInstance(back, FileTree)
        self.assertEqual(told(back), (told(tree)[0], [None] * 16))
        self.assertEqual(back.nodes, tree.nodes)
        self.assertEqual(tree_values(back), tree_values(tree))

    def test_every_character_of_targets(self):
        target = "/ABCDEFGHIJKLMNOPQRSTUVWXYZ/abcdefghijklmnopqrstuvwxyz/0123456789_-."
        tree = made(("symlink", target, "/l"))
        self.assertEqual(tree_of(tree_values(tree)).nodes[1].body, target)

    def test_long_bodies_read_back(self):
        for many in (0, 1, 447, 448, 449, 28671, 28672):
            for octet in (0, 9):
                node = Node("file", (octet,) * many, links=300)
                self.assertEqual(tree_of({0: ROOT, **node_values(9, node)}).nodes[9], node)

    def test_values_stay(self):
        values = tree_values(made(("write", "/a", 0, [1])))
        before = dict(values)
        tree_of(values)
        settle(values)
        self.assertEqual(values, before)


class Changes(unittest.TestCase):
    """Point 78."""

    def test_equal_trees(self):
        tree = made(("write", "/a", 0, [1]), ("mkdir", "/d"))
        self.assertEqual(changes_between(tree, tree), [])
        self.assertEqual(changes_between(tree, tree.copied()), [])
        other = made(("open_file", "/a"), tree=tree.copied())
        self.assertEqual(changes_between(tree, other), [])

    def test_new_and_removed_nodes(self):
        before = FileTree()
        after = made(("write", "/a", 0, [1]))
        changes = [(0, (2, 0, 1, 0, 0, 3)), (1, (1, 97, 1)), (4096, (1, 0, 1, 0, 0, 1)), (4097, (1,))]
        self.assertEqual(changes_between(before, after), changes)
        changes = [(0, ROOT), (1, None), (4096, None), (4097, None)]
        self.assertEqual(changes_between(after, before), changes)

    def test_only_what_differs(self):
        before = made(("write", "/a", 0, [1] * 1000), ("write", "/b", 0, [2]))
        after = made(("write", "/a", 500, [3]), tree=before.copied())
        self.assertEqual(changes_between(before, after), [(4098, (1,) * 52 + (3,) + (1,) * 395)])
        after = made(("truncate", "/a", 448), tree=before.copied())
        self.assertEqual(changes_between(before, after), [(4096, (1, 0, 1, 0, 1, 192)), (4098, None), (4099, None)])
        after = made(("link", "/b", "/c"), tree=before.copied())
        self.assertEqual([key for key, value in changes_between(before, after)], [0, 1, 8192])

    def test_another_node_with_the_same_number(self):
        before = made(("write", "/a", 0, [1]))
        after = made(("unlink", "/a"), ("symlink", "b", "/a"), tree=before.copied())
        self.assertEqual(changes_between(before, after), [(4096, (3, 0, 1, 0, 0, 1)), (4097, (98,))])

    def test_zeros_that_change_no_value(self):
        before = made(("write", "/a", 0, [1, 2]))
        after = made(("truncate", "/a", 4), tree=before.copied())
        self.assertEqual(changes_between(before, after), [(4096, (1, 0, 1, 0, 0, 4))])

    def test_trees_stay(self):
        before = made(("write", "/a", 0, [1]))
        after = made(("mkdir", "/d"), tree=before.copied())
        kept = told(before), told(after)
        changes_between(before, after).clear()
        self.assertEqual((told(before), told(after)), kept)


class Settling(unittest.TestCase):
    """Point 79."""

    def test_no_values(self):
        self.assertEqual(settle({}), [(0, (2, 0, 1, 0, 0, 0))])

    def test_nothing_to_settle(self):
        self.assertEqual(settle({0: ROOT}), [])
        self.assertEqual(settle(tree_values(made(*full_directory()))), [])
        # 256 names are written with a 0 as their second octet.
        self.assertEqual(settle({0: ROOT, 4096: (1, 1, 0, 0, 0, 0)}), [])

    def test_nodes_without_names(self):
        tree = made(
            ("write", "/a", 0, [1] * 500),
            ("write", "/b", 0, [2]),
            ("write", "/c", 0, [0] * 500),
            ("write", "/d", 0, [3] * 5000),
            *[("open_file", path) for path in ("/a", "/b", "/c", "/d")],
            *[("unlink", path) for path in ("/d", "/c", "/a")],
        )
        changes = [(key, None) for key in (4096, 4097, 4098, 12288, *range(16384, 16397))]
        self.assertEqual(settle(tree_values(tree)), changes)
        values = {key: value for key, value in tree_values(tree).items() if (key, None) not in changes}
        self.assertEqual(sorted(tree_of(values).nodes), [0, 2])

    def test_ascending_order(self):
        values = {8193: (1,), 8192: (1, 0, 0, 0, 0, 1), 4097: (1,), 4096: (1, 0, 0, 0, 0, 1), 0: ROOT}
        self.assertEqual(settle(values), [(key, None) for key in (4096, 4097, 8192, 8193)])


if __name__ == "__main__":
    unittest.main()

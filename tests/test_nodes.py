"""Points 61 to 63: nodes, and new trees with their handles and entries."""

import unittest

from trees import made, told

from tidemark.files.node import Node
from tidemark.files.tree import FileTree

ALL = [
    Node("file", ()),
    Node("file", (1, 2)),
    Node("file", (1, 2), links=0),
    Node("file", (1, 2), links=2),
    Node("file", (1, 3)),
    Node("directory", ()),
    Node("directory", (("a", 1), ("b", 2))),
    Node("directory", (("a", 1), ("b", 3))),
    Node("link", "a"),
    Node("link", "/a"),
]


class Nodes(unittest.TestCase):
    def test_fields(self):
        node = Node("file", (1, 2), links=3)
        self.assertEqual((node.kind, node.body, node.links), ("file", (1, 2), 3))
        self.assertEqual(Node("link", "/a").links, 1)
        self.assertRaises(TypeError, Node, "link", "/a", 2)

    def test_measure(self):
        self.assertEqual([node.measure() for node in ALL], [0, 2, 2, 2, 2, 0, 2, 2, 1, 2])
        self.assertEqual(Node("directory", (("abc", 1),)).measure(), 1)
        self.assertEqual(Node("link", "a/bc").measure(), 4)

    def test_with_body(self):
        for node in (Node("file", (1,), links=0), Node("file", (1,), links=7)):
            other = node.with_body((5, 6))
            self.assertEqual((other.kind, other.body, other.links), ("file", (5, 6), node.links))
            self.assertEqual(node.body, (1,))

    def test_with_links(self):
        node = Node("link", "a", links=4)
        other = node.with_links(0)
        self.assertEqual((other.kind, other.body, other.links), ("link", "a", 0))
        self.assertEqual(node.links, 4)

    def test_equality(self):
        for at, node in enumerate(ALL):
            for where, other in enumerate(ALL):
                self.assertIs(node == other, at == where)
                self.assertIs(node != other, at != where)
            self.assertIs(node == Node(node.kind, node.body, links=node.links), True)

    def test_what_is_no_node(self):
        node = Node("file", (1, 2))
        for other in (None, "file", ("file", (1, 2), 1), (1, 2), FileTree(), 1):
            self.assertIs(node == other, False)
            self.assertIs(node != other, True)


class Trees(unittest.TestCase):
    def test_new_tree(self):
        tree = FileTree()
        self.assertEqual(told(tree), ({0: ("directory", (), 1)}, [None] * 16))
        self.assertIsInstance(tree.nodes[0], Node)

    def test_new_trees_are_apart(self):
        tree = FileTree()
        tree.nodes[1] = Node("file", ())
        tree.handles[0] = 1
        self.assertEqual(told(FileTree()), ({0: ("directory", (), 1)}, [None] * 16))

    def test_copies(self):
        tree = made(("write", "/a", 0, [1]), ("mkdir", "/d"), ("open_file", "/a"))
        before = told(tree)
        copy = tree.copied()
        self.assertIsInstance(copy, FileTree)
        self.assertEqual(told(copy), before)
        made(("unlink", "/a"), ("close_file", 0), ("mkdir", "/e"), tree=copy)
        self.assertEqual(told(tree), before)
        again = tree.copied()
        made(("rmdir", "/d"), ("open_file", "/a"), tree=tree)
        self.assertEqual(told(again), before)

    def test_is_open(self):
        tree = made(("write", "/a", 0, []), ("write", "/b", 0, []), ("open_file", "/b"), ("open_file", "/b"))
        self.assertEqual([tree.is_open(number) for number in (0, 1, 2, 3)], [False, False, True, False])
        made(("close_file", 0), tree=tree)
        self.assertIs(tree.is_open(2), True)
        made(("close_file", 1), tree=tree)
        self.assertIs(tree.is_open(2), False)
        tree.handles[15] = 1
        self.assertIs(tree.is_open(1), True)

    def test_entries(self):
        tree = made(("mkdir", "/d"), ("write", "/d/a", 0, []), ("symlink", "nowhere", "/d/b"), ("mkdir", "/a"))
        self.assertEqual([tree.entry(0, name) for name in ("a", "d", "b", "")], [4, 1, None, None])
        self.assertEqual([tree.entry(1, name) for name in ("a", "b", "d")], [2, 3, None])
        self.assertIsNone(tree.entry(4, "a"))


if __name__ == "__main__":
    unittest.main()

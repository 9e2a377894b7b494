"""Points 66 to 79 in runs: a tree and a plain tree answer the same to the same operations."""

import unittest

from plain_tree import PlainTree, Refused, plain_values
from trees import DrawnOperations, told

from tidemark.errors import TidemarkError, word_of
from tidemark.files.operations import OPERATIONS, check_operation, make_operation
from tidemark.files.tree import FileTree
from tidemark.files.values import changes_between, settle, tree_of, tree_values


def answer(tree, operation):
    """The result of an operation, or the word of its error."""
    try:
        check_operation(operation)
        return ("done", make_operation(tree, operation))
    except TidemarkError as error:
        return word_of(error)


def plain_answer(tree, operation):
    try:
        return ("done", tree.make(operation))
    except Refused as refusal:
        return refusal.args[0]


class Runs(unittest.TestCase):
    def run_one(self, seed, many, seen):
        drawn = DrawnOperations(seed)
        tree = FileTree()
        plain = PlainTree()
        for _ in range(many):
            operation = drawn.operation()
            before = tree.copied()
            expected = plain_answer(plain, operation)
            self.assertEqual(answer(tree, operation), expected, operation)
            self.assertEqual(told(tree), plain.told(), operation)
            found = (operation[0], expected if isinstance(expected, str) else "done")
            seen[found] = seen.get(found, 0) + 1
            changes = changes_between(before, tree)
            self.assertEqual(changes, sorted(changes))
            values = {**tree_values(before), **dict(changes)}
            self.assertEqual({key: value for key, value in values.items() if value is not None}, plain_values(plain))
        return tree

    def test_answers_and_trees(self):
        seen = {}
        for seed in range(25):
            tree = self.run_one(seed, 200, seen)
            values = tree_values(tree)
            self.assertEqual(told(tree_of(values))[0], told(tree)[0])
            settled = {**values, **dict(settle(values))}
            settled = {key: value for key, value in settled.items() if value is not None}
            nameless = [number for number, node in tree.nodes.items() if node.links == 0]
            self.assertEqual(sorted(tree_of(settled).nodes), sorted(set(tree.nodes) - set(nameless)))
        # The runs are of use only if most operations succeed in them.
        for word in OPERATIONS:
            self.assertGreater(seen.get((word, "done"), 0), 3, word)


if __name__ == "__main__":
    unittest.main()

"""Points 87 to 97 in runs: the tools on drawn trees answer as the plain tools do."""

import unittest

from plain_tools import (
    plain_copy,
    plain_differences,
    plain_listing,
    plain_remove,
    plain_search,
    plain_usage,
)
from plain_tree import PlainTree, Refused
from stores import Numbers
from trees import DrawnOperations, told

from tidemark.errors import TidemarkError, word_of
from tidemark.files.operations import check_operation, make_operation
from tidemark.files.tree import FileTree
from tidemark.tools.comparing import differences
from tidemark.tools.copying import copies
from tidemark.tools.listing import list_tree
from tidemark.tools.patterns import search
from tidemark.tools.removing import removals
from tidemark.tools.usage import usage

DIRECTORIES = ["/a", "/b", "/ab", "/a/a", "/a/b", "/a/x.y", "/b/a", "/b/b", "/b/a/ab", "/ab/b", "/a/b/a"]
GROWING = ("mkdir", "write", "truncate", "link", "symlink", "open_file", "write_at", "resize")

PATTERNS = ["*", "?", "a*", "*b", "x.?", "*.*", "??", "ab", "*?*", "b"]


def answer(call, *arguments, **named):
    try:
        return call(*arguments, **named)
    except TidemarkError as error:
        return word_of(error)


def plain_answer(call, *arguments):
    try:
        return call(*arguments)
    except Refused as refusal:
        return refusal.args[0]


class Drawn:
    """A tree and a plain tree on which the same operations were made."""

    def __init__(self, seed, many):
        self.drawn = DrawnOperations(seed)
        self.tree = FileTree()
        self.plain = PlainTree()
        directories = [path for path in DIRECTORIES if self.drawn.numbers.below(3)]
        links = [("symlink", self.drawn.target(), "/" + name) for name in ("l", "m")]
        for operation in [("mkdir", path) for path in directories] + links:
            self.make(operation)
        for _ in range(many):
            operation = self.drawn.operation()
            if operation[0] in GROWING or self.drawn.numbers.below(5) == 0:
                self.make(operation)

    def make(self, operation):
        if plain_answer(self.plain.check, operation) is None:
            check_operation(operation)
            answer(make_operation, self.tree, operation)
            plain_answer(self.plain.make, operation)

    def path(self):
        """A path that may be an argument."""
        while True:
            path = self.drawn.path()
            if plain_answer(self.plain.check, ("stat", path)) is None:
                return path


class Runs(unittest.TestCase):
    def drawn_trees(self, seeds, many=90):
        for seed in range(seeds):
            found = Drawn(seed, many)
            self.assertEqual(told(found.tree), found.plain.told())
            yield seed, found

    def test_listings_usages_and_searches(self):
        answers = {}
        for seed, found in self.drawn_trees(40):
            for _ in range(12):
                path = found.path()
                pattern = found.drawn.numbers.one_of(PATTERNS)
                listed = answer(list_tree, found.tree, path)
                self.assertEqual(listed, plain_answer(plain_listing, found.plain, path))
                self.assertEqual(answer(usage, found.tree, path), plain_answer(plain_usage, found.plain, path))
                self.assertEqual(
                    answer(search, found.tree, path, pattern), plain_answer(plain_search, found.plain, path, pattern)
                )
                word = listed if isinstance(listed, str) else "more" if len(listed) > 2 else "few"
                answers[word] = answers.get(word, 0) + 1
        for word in ("more", "few", "notfound", "notdirectory"):
            self.assertGreater(answers[word], 20, answers)

    def test_differences(self):
        seen = {}
        for seed, found in self.drawn_trees(200):
            other = Drawn(seed // 2 * 2, 90 + 12 * (seed % 3))
            for _ in range(8):
                path = found.path()
                other_path = found.drawn.numbers.one_of([path, path, "/", other.path()])
                told_by = answer(differences, found.tree, path, other=other.tree, other_path=other_path)
                self.assertEqual(
                    told_by, plain_answer(plain_differences, found.plain, path, other.plain, other_path)
                )
                for change in [told_by] if isinstance(told_by, str) else [row[1] for row in told_by]:
                    seen[change] = seen.get(change, 0) + 1
        for word in ("kind", "octets", "target", "added", "removed", "notfound"):
            self.assertGreater(seen[word], 5, seen)

    def make_all(self, tree, operations):
        for operation in operations:
            self.assertIsNone(make_operation(tree, operation))
        return len(operations)

    def test_removals(self):
        many = []
        for seed, found in self.drawn_trees(80):
            for _ in range(6):
                path = found.path()
                operations = answer(removals, found.tree, path)
                if not isinstance(operations, str):
                    operations = self.make_all(found.tree, operations)
                    many.append(operations)
                self.assertEqual(operations, plain_answer(plain_remove, found.plain, path))
                self.assertEqual(told(found.tree), found.plain.told())
        self.assertGreater(len([one for one in many if one > 2]), 30)

    def test_copies(self):
        many = []
        for seed, found in self.drawn_trees(160):
            for _ in range(5):
                source = found.path()
                target = found.path()
                if found.drawn.numbers.below(2):
                    target = f"{target}/new".replace("//", "/")
                operations = answer(copies, found.tree, source, target)
                if not isinstance(operations, str):
                    operations = self.make_all(found.tree, operations)
                    many.append(operations)
                self.assertEqual(operations, plain_answer(plain_copy, found.plain, source, target))
                self.assertEqual(told(found.tree), found.plain.told())
        self.assertGreater(len([one for one in many if one > 3]), 40)


if __name__ == "__main__":
    unittest.main()

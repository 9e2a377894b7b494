"""Point 2 in runs of volumes: every answer is that of a plain volume, and every mount shows a prefix."""

import unittest

from plain_tree import Refused, plain_values
from plain_volume import SEVERAL, PlainVolume
from stores import Numbers
from trees import DrawnOperations, told
from volumes import prefixes

from tidemark.chip.chip import Chip
from tidemark.errors import PowerCut, TidemarkError, WornOut, word_of
from tidemark.files.values import tree_values
from tidemark.inspector.inspecting import inspect_flash
from tidemark.tools.calls import make_call
from tidemark.volume.mounting import format_flash, mount_flash, peek_flash

SHAPES = [(24, 16), (25, 17), (32, 16), (24, 32), (31, 23), (48, 32)]


def spread_left(recorded, bad):
    """By how much the recorded erases of the blocks that are not bad differ, less the bad blocks."""
    good = [many for block, many in enumerate(recorded) if block not in bad]
    return max(good) - min(good) - len(bad)


class Run:
    """A chip, its volume, and a plain volume beside it."""

    def __init__(self, test, seed):
        self.test = test
        self.numbers = Numbers(seed)
        self.drawn = DrawnOperations(seed)
        self.shape = SHAPES[seed % len(SHAPES)]
        self.failing = [0, 0, 3, 20][seed // 2 % 4]
        self.chip = Chip(*self.shape)
        self.plan(70)
        self.formatted = self.done(format_flash, self.chip)
        self.allowed = [{0: (2, 0, 1, 0, 0, 0)}]
        self.seen = {}

    def count(self, word):
        self.seen[word] = self.seen.get(word, 0) + 1

    def done(self, call, *arguments):
        try:
            call(*arguments)
        except WornOut:
            return False
        return True

    def plan(self, deeds, cutting=0):
        fates = ["fail" if self.numbers.below(1000) < self.failing else "ok" for _ in range(deeds)]
        if self.numbers.below(100) < cutting:
            fates[self.numbers.below(deeds) :] = [self.numbers.one_of(["before", "during"])]
        self.chip.plan(fates, self.looks())

    def looks(self):
        return [self.numbers.below(2) == 0 for _ in range(200)]

    def peeked(self):
        """What a peek of a copy of the chip shows with drawn looks."""
        twin = self.chip.copied()
        twin.powered = False
        twin.plan([], self.looks())
        report = inspect_flash(twin)
        self.test.assertEqual([word for block, page, word in report.defects], [])
        self.test.assertIsNotNone(report.volume)
        twin.plan([], self.looks())
        return told(peek_flash(twin).tree_now())

    def mount(self):
        """Mount the chip until this is not cut, and return False if it is worn out."""
        while True:
            expected = self.peeked()
            self.test.assertEqual(self.peeked(), expected)
            self.plan(12, 40)
            try:
                self.volume = mount_flash(self.chip)
                break
            except PowerCut:
                self.count("mount cut")
            except WornOut:
                return False
        self.test.assertEqual(told(self.volume.tree_now()), expected)
        self.test.assertEqual(self.volume.accepted_changes(), [])
        self.start = tree_values(self.volume.tree_now())
        self.test.assertIn(self.start, self.allowed)
        nodes = {number: plain_node(node) for number, node in self.volume.tree_now().nodes.items()}
        self.plain = PlainVolume(self.shape, nodes)
        self.count("mounted")
        return True

    def drawn_call(self):
        draw = self.numbers.below(100)
        if draw < 4:
            return ("sync",)
        if draw < 8:
            return ("remove_tree", self.drawn.path())
        if draw < 24:
            return ("copy_tree", self.drawn.path(), self.drawn.path())
        if draw < 34:
            return ("batch", [self.drawn.operation() for _ in range(self.numbers.below(4))])
        return self.drawn.operation()

    def call(self):
        """A call, which in most cases is one that is not refused."""
        call = self.drawn_call()
        for _ in range(self.numbers.below(6)):
            try:
                self.plain.twin().call(call)
                return call
            except Refused:
                call = self.drawn_call()
        return call

    def step(self):
        """Make one call, and return False if the volume is down then."""
        if self.numbers.below(8) == 0:
            self.plan(1 + self.numbers.below(40), 40)
        call = self.call()
        try:
            found = ("done", make_call(self.volume, call))
        except (PowerCut, WornOut) as error:
            found = word_of(error)
            self.interrupted(call, found)
        except TidemarkError as error:
            found = word_of(error)
            self.test.assertEqual(found, self.expected(call), call)
        else:
            self.test.assertEqual(found, self.expected(call), call)
        self.count((call[0], found if isinstance(found, str) else "done"))
        if self.volume.is_up:
            self.compare()
        return self.volume.is_up

    def expected(self, call):
        try:
            return ("done", self.plain.call(call))
        except Refused as refusal:
            return refusal.args[0]

    def interrupted(self, call, word):
        if word == "wornout" and self.volume.is_up:
            spare = self.shape[0] // 16 + 1
            self.test.assertGreater(len(self.volume.wear()[1]), spare)
        self.plain.redo(call, len(self.volume.accepted_changes()))

    def compare(self):
        self.test.assertEqual(told(self.volume.tree_now()), self.plain.tree.told())
        self.test.assertEqual(len(self.volume.accepted_changes()), len(self.plain.states) - 1)
        recorded, bad = self.volume.wear()
        if len(bad) <= self.shape[0] // 16 + 1:
            self.test.assertLessEqual(spread_left(recorded, bad), 17)

    def go(self, mounts):
        for _ in range(mounts):
            if not self.mount():
                return
            for _ in range(10 + self.numbers.below(60)):
                if not self.step():
                    break
            self.test.assertEqual(self.chip.refused, 0)
            self.test.assertEqual(plain_values(self.plain.tree), self.plain.states[-1])
            self.allowed = prefixes(self.start, self.volume)
            # What was accepted is what the plain volume accepted.
            self.test.assertEqual(prefixes(self.start, self.volume)[-1], settled_state(self.plain.states[-1]))


def settled_state(values):
    nameless = [key // 4096 for key in values if key % 4096 == 0 and values[key][1:3] == (0, 0)]
    return {key: values[key] for key in values if key // 4096 not in nameless}


def plain_node(node):
    kinds = {"file": list, "directory": dict, "link": str}
    return [node.kind, kinds[node.kind](node.body), node.links]


class Runs(unittest.TestCase):
    def test_answers_and_mounts(self):
        seen = {}
        for seed in range(48):
            run = Run(self, seed)
            if run.formatted:
                run.go(8)
            for word, many in run.seen.items():
                seen[word] = seen.get(word, 0) + many
        # The runs are of use only if they meet these cases.
        self.assertGreater(seen["mounted"], 250)
        self.assertGreater(seen["mount cut"], 40)
        for word in ("remove_tree", "copy_tree", "batch", "sync"):
            self.assertGreater(seen[(word, "done")], 100, word)
        self.assertGreater(sum(many for word, many in seen.items() if word[1] == "powercut"), 80)
        self.assertGreater(sum(many for word, many in seen.items() if word[1] == "wornout"), 40)
        for word in SEVERAL:
            self.assertGreater(seen[(word, "powercut")], 10, word)


if __name__ == "__main__":
    unittest.main()

"""Points 32 to 60 in runs: a store and a plain store make the same of the same chip, deed by deed."""

import unittest

from model import told
from plain_store import Cut, PlainStore, Worn, plain_format, spare
from samples import whole
from stores import Numbers, attributes, outcome, planted

from tidemark.chip.chip import Chip
from tidemark.store.starting import format_chip, mount_store

SHAPES = [(24, 16), (24, 17), (25, 16), (31, 16), (32, 16), (33, 19), (48, 16), (24, 32), (48, 32)]


def plain_outcome(call, *arguments):
    try:
        return call(*arguments)
    except Cut:
        return "cut"
    except Worn:
        return "worn"


def settle_some(values):
    """Settling changes that depend on the values."""
    changes = [(key, None) for key in values if key % 11 == 0]
    return changes + [(1048575, (len(values),))] if len(values) % 3 else changes


class Run:
    """A chip and its twin, on which the store and the plain store do the same."""

    def __init__(self, test, seed):
        self.test = test
        self.numbers = Numbers(seed)
        self.seen = {}
        self.keys = [self.numbers.below(96) + 4096 * self.numbers.below(1 + seed % 4) for _ in range(60)]

    def count(self, word):
        self.seen[word] = self.seen.get(word, 0) + 1

    def plan(self, deeds, failing, cutting):
        fates = ["ok" if self.numbers.below(100) >= failing else "fail" for _ in range(deeds)]
        if self.numbers.below(100) < cutting:
            fates[self.numbers.below(deeds) :] = [self.numbers.one_of(["before", "during"])]
        looks = [self.numbers.below(2) == 0 for _ in range(9)]
        self.chip.plan(fates, looks)
        self.other.plan(fates, looks)

    def compare(self, found, expected):
        self.test.assertEqual(found, expected)
        self.test.assertEqual(whole(self.chip), whole(self.other))
        self.count(found if isinstance(found, str) else "done")

    def compare_stores(self):
        plain = {name: getattr(self.plain, name) for name in attributes(self.store) if name != "generation"}
        self.test.assertEqual({**plain, "generation": self.chip.generation}, attributes(self.store))
        self.test.assertEqual(told(self.store.index), self.plain.index.told())

    def format(self, chip):
        self.chip = chip
        self.other = chip.copied()
        self.plan(40, 4, 20)
        found = outcome(format_chip, self.chip)
        self.compare(found, plain_outcome(plain_format, self.other))
        return found is None

    def plant(self, chip):
        self.chip = chip
        self.other = chip.copied()
        return True

    def mount(self):
        """Mount until this is not cut, and return True if it succeeds."""
        for cutting in (20, 0):
            self.plan(150, 2, cutting)
            self.store = outcome(mount_store, self.chip, settle_some)
            self.plain = plain_outcome(PlainStore, self.other, settle_some)
            failed = self.store if isinstance(self.store, str) else None
            self.compare(failed, self.plain if isinstance(self.plain, str) else None)
            if failed != "cut":
                break
        self.chip.plan([], [])
        self.other.plan([], [])
        if failed is None:
            self.compare_stores()
        return failed is None

    def some_changes(self):
        changes = {}
        for _ in range(self.numbers.below(6)):
            key = self.numbers.one_of(self.keys)
            octets = tuple(self.numbers.below(256) for _ in range(self.numbers.below(3)))
            changes[key] = None if self.numbers.below(4) == 0 else octets
        return sorted(changes.items())

    def deed(self):
        """Make one deed, and return False if the store cannot go on."""
        if self.numbers.below(100) < 5:
            self.plan(1 + self.numbers.below(60), 3, 15)
        victims = self.plain.victims([])
        if victims:
            self.count("all victims" if victims == sorted(self.plain.data()) else "some victims")
        if self.numbers.below(10) < 8:
            changes = self.some_changes()
            found = outcome(self.store.change, changes)
            self.compare(found, plain_outcome(self.plain.change, changes))
        else:
            found = outcome(self.store.sync)
            self.compare(found, plain_outcome(self.plain.sync))
        self.test.assertEqual(self.store.bad, self.plain.bad)
        self.test.assertEqual(self.store.recorded, self.plain.recorded)
        if found is not None:
            return found == "cut" and self.mount()
        self.compare_stores()
        self.test.assertEqual(self.store.is_worn(), len(self.plain.bad) > spare(self.plain.shape[0]))
        if self.store.is_worn():
            self.count("worn")
        return self.numbers.below(40) != 0 or self.mount()

    def go(self, deeds):
        for _ in range(deeds):
            if not self.deed():
                return


class Runs(unittest.TestCase):
    def add_up(self, seen, run):
        for word, many in run.seen.items():
            seen[word] = seen.get(word, 0) + many

    def check_seen(self, seen):
        """The runs are of use only if they meet these cases."""
        for word, least in (("done", 900), ("cut", 8), ("some victims", 80), ("worn", 50)):
            self.assertGreater(seen.get(word, 0), least, seen)

    def test_runs_from_a_format(self):
        seen = {}
        for seed in range(45):
            run = Run(self, seed)
            if run.format(Chip(*SHAPES[seed % len(SHAPES)])) and run.mount():
                run.go(60)
            self.add_up(seen, run)
        self.check_seen(seen)

    def test_runs_from_uneven_blocks(self):
        seen = {}
        for seed in range(40):
            numbers = Numbers(seed)
            shape = SHAPES[seed % len(SHAPES)]
            recorded = {block: 1 + numbers.below(3) * (10 + seed % 3 * 5) for block in range(shape[0])}
            spread = {3: list(range(10)), 4: [4096 + key for key in range(9)], 5: [70, 71, 300]}
            run = Run(self, seed)
            chip = planted(spread, shape=shape, recorded=recorded, bad=(20,) if seed % 2 else ())
            if run.plant(chip) and run.mount():
                run.go(40)
            self.add_up(seen, run)
        self.check_seen(seen)


if __name__ == "__main__":
    unittest.main()

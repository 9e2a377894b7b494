"""Point 2, as far as a store keeps it: a cut at every deed, and what a mount shows then."""

import unittest

from stores import Numbers, mounted, nothing, outcome, shown

from tidemark.store.starting import mount_store, peek_values

FATES = ["before", "during"]


def rounds(numbers, many):
    """Calls of a store: changes, syncs and mounts."""
    calls = []
    for _ in range(many):
        keys = sorted({numbers.below(40) for _ in range(1 + numbers.below(6))})
        calls.append([(key, None if numbers.below(4) == 0 else (numbers.below(256),)) for key in keys])
        if numbers.below(4) == 0:
            calls.append("sync")
    return calls + ["mount"]


def changed(values, changes):
    found = {**values, **dict(changes)}
    return {key: found[key] for key in sorted(found) if found[key] is not None}


class Course:
    """Calls of a store up to a cut: the states that its changes make, and how many a sync made sure."""

    def __init__(self, store, calls):
        self.states = [shown(store)]
        self.sure = 0
        self.ended = None
        for call in calls:
            if call == "mount":
                self.ended = outcome(mount_store, store.chip, nothing)
            elif call == "sync":
                self.ended = outcome(store.sync)
                self.sure = len(self.states) - 1 if self.ended is None else self.sure
            else:
                self.states.append(changed(self.states[-1], call))
                self.ended = outcome(store.change, call)
            if self.ended == "cut":
                return


def deeds_of(store, calls):
    """How many programs and erases the calls make."""
    twin = store.twin(store.chip.copied())
    twin.chip.plan(["ok"] * 200, [])
    Course(twin, calls)
    return 200 - len(twin.chip.fates_left())


def looked(chip, numbers, fates=()):
    """A copy of a chip with drawn looks."""
    copy = chip.copied()
    copy.plan(list(fates), [numbers.below(2) == 0 for _ in range(100)])
    return copy


class Cuts(unittest.TestCase):
    def run_cut(self, store, calls, deed, fate):
        twin = store.twin(store.chip.copied())
        twin.chip.plan(["ok"] * deed + [fate], [])
        course = Course(twin, calls)
        self.assertEqual(course.ended, "cut")
        return twin.chip, course.states[course.sure :]

    def check_mount(self, chip, numbers, states):
        """Mount a copy of the chip, and return the values that this shows."""
        found = mount_store(looked(chip, numbers), nothing)
        values = shown(found)
        self.assertIn(values, states)
        self.assertEqual(peek_values(looked(chip, numbers), nothing), values)
        self.assertEqual(found.chip.refused, 0)
        # What a mount shows is written, so it does not change any more.
        self.assertEqual(shown(mount_store(looked(found.chip, numbers), nothing)), values)
        return values

    def check_second_cuts(self, chip, numbers, states, values):
        for second in range(200):
            for fate in FATES:
                again = looked(chip, numbers, ["ok"] * second + [fate])
                found = outcome(mount_store, again, nothing)
                if found != "cut":
                    self.assertEqual(len(again.fates_left()), 1)
                    return
                self.assertEqual(self.check_mount(again, numbers, states), values)

    def check_calls(self, store, calls, numbers, seconds):
        deeds = deeds_of(store, calls)
        self.assertLess(deeds, 200)
        for deed in range(deeds):
            for fate in FATES:
                chip, states = self.run_cut(store, calls, deed, fate)
                values = self.check_mount(chip, numbers, states)
                if (deed * 2 + FATES.index(fate)) % seconds == 0:
                    self.check_second_cuts(chip, numbers, states, values)
        return deeds

    def test_from_a_new_store(self):
        numbers = Numbers(1)
        store = mounted()
        self.assertGreater(self.check_calls(store, rounds(numbers, 18), numbers, 5), 50)

    def test_in_commits(self):
        numbers = Numbers(2)
        store = mounted()
        for call in rounds(numbers, 12)[:-1]:
            outcome(store.change, call) if call != "sync" else outcome(store.sync)
        store.sync()
        root = store.root
        calls = rounds(numbers, 10)
        calls[4:4] = [[(key, (key % 256,)) for key in range(500, 540, 2)]]
        deeds = self.check_calls(store, calls, numbers, 7)
        self.assertGreater(deeds, 60)
        self.assertEqual(store.root, root)

    def test_with_bad_blocks(self):
        numbers = Numbers(3)
        store = mounted()
        store.chip.plan(["ok"] * 5 + ["fail"] + ["ok"] * 12 + ["fail"], [])
        for call in rounds(numbers, 12)[:-1]:
            outcome(store.change, call) if call != "sync" else outcome(store.sync)
        self.assertGreater(len(store.bad), 0)
        self.check_calls(store, rounds(numbers, 8), numbers, 9)


if __name__ == "__main__":
    unittest.main()

"""The store: values by keys on a chip."""

from tidemark.space.limits import spare_blocks
from tidemark.store.journal import flush, mark_batch

FULL_BUFFER = 8


class Store:
    """What a mounted store holds in memory."""

    def __init__(self, chip, home, root, index, position):
        _, _, _, _, _, places, erases, bad = root
        self.chip = chip
        self.shape = chip.shape
        self.generation = chip.generation
        self.root = root
        self.home = home
        self.anchor = home
        self.position = position
        self.index = index
        self.buffer = {}
        self.places = list(places)
        self.recorded = list(erases)
        self.bad = list(bad)
        self.clean = []
        self.item_count = 0
        self.journal_at = (0, 0)
        self.unmarked = False
        self.head = None

    def change(self, changes):
        """Make changes, which are flushed as soon as they are many."""
        for key, value in changes:
            self.buffer[key] = value
        if len(self.buffer) >= FULL_BUFFER:
            flush(self)

    def sync(self):
        """Write all changes so that the next mount shows them."""
        flush(self)
        mark_batch(self)

    def look(self, key):
        """Return the value of a key, or None."""
        if key in self.buffer:
            return self.buffer[key]
        found = self.index.find(key)
        return None if found is None else found[1]

    def keys_shown(self):
        """Return the ascending list of the keys that have values."""
        changed = [key for key in self.buffer if self.buffer[key] is not None]
        unchanged = [key for key in self.index.keys_sorted() if key not in self.buffer]
        return sorted(changed + unchanged)

    def values_shown(self):
        """Return a dict of the values of the keys that have values."""
        return {key: self.look(key) for key in self.keys_shown()}

    def twin(self, chip):
        """Return a store of its own in the same state, on a copy of the chip."""
        second = Store(chip, self.home, self.root, self.index.copied(), self.position)
        second.generation = self.generation
        second.anchor = self.anchor
        second.buffer = dict(self.buffer)
        second.places = list(self.places)
        second.recorded = list(self.recorded)
        second.bad = list(self.bad)
        second.clean = list(self.clean)
        second.item_count = self.item_count
        second.journal_at = self.journal_at
        second.unmarked = self.unmarked
        second.head = self.head
        return second

    def is_worn(self):
        """Return True if more blocks are bad than may be."""
        return len(self.bad) > spare_blocks(self.shape[0])

    def is_current(self):
        """Return True if the chip was neither formatted nor mounted since this store was mounted."""
        return self.generation == self.chip.generation

"""The journal of a store: how its buffer is flushed and its batches are marked."""

from tidemark.store.blocks import program_page
from tidemark.store.commits import commit

JOURNAL_BLOCKS = 2


def journal_room(store):
    """Return how many items the journal has room for, with a page left for a mark."""
    which, page = store.journal_at
    left = (JOURNAL_BLOCKS - which) * store.shape[1] - page
    return max(0, left - 1)


def make_item(index, key, value, address):
    """Make the change of an item in an index."""
    if value is None:
        index.drop(key)
    else:
        index.put(key, address, value)


def flush(store):
    """Write the changes of the buffer into the journal or, where it has no room, by a commit."""
    if not store.buffer:
        return
    changes = [(key, store.buffer[key]) for key in sorted(store.buffer)]
    before = store.index.copied()
    if _write_batch(store, changes):
        store.unmarked = True
    else:
        store.index = before
        commit(store, changes)
    store.buffer = {}


def mark_batch(store):
    """Mark the last batch if none has done so."""
    if store.unmarked:
        _program_next(store, ("mark", store.item_count))
        store.unmarked = False


def _write_batch(store, changes):
    """Write changes as items, and return True if the journal has room for all of them."""
    if len(changes) > journal_room(store):
        return False
    for at, (key, value) in enumerate(changes):
        last = at + 1 == len(changes)
        address = _write_item(store, ("item", store.root[2], store.item_count + 1, last, key, value))
        if address is None:
            return False
        store.item_count += 1
        make_item(store.index, key, value, address)
    return True


def _write_item(store, item):
    """Write an item at the first page where this succeeds, and return its address, or None without room."""
    while journal_room(store) > 0:
        address = _program_next(store, item)
        if address is not None:
            return address
    return None


def _program_next(store, content):
    """Program the next page of the journal, and return its address, or None if this fails."""
    which, page = store.journal_at
    logical = store.root[4][which]
    done = program_page(store, store.places[logical], page, content)
    store.journal_at = (which, page + 1) if page + 1 < store.shape[1] else (which + 1, 0)
    return (logical, page) if done else None

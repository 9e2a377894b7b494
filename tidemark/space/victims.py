"""What a commit writes, takes and frees, and the blocks that it empties."""

from tidemark.space.anchor import has_two_pages
from tidemark.space.limits import block_share, spare_blocks
from tidemark.space.order import data_blocks, free_blocks

# A logical block beyond all places, for leaves whose addresses are not known yet.
NOWHERE = (255, 0)

JOURNAL_BLOCKS = 2
LEAST_KEPT = 4
NEEDED_BESIDE = 3


def leaves_written(store, changes, victims):
    """Return the ascending list of the keys and values that a commit writes."""
    changed = dict(changes)
    leaves = [(key, value) for key, value in changes if value is not None]
    for key in store.index.keys_sorted():
        address, value = store.index.find(key)
        if key not in changed and address[0] in victims:
            leaves.append((key, value))
    return sorted(leaves)


def blocks_taken(store, changes, victims):
    """Return how many blocks a commit takes."""
    pages = store.shape[1]
    leaves = leaves_written(store, changes, victims)
    written = len(leaves) + _index_behind(store, changes, victims).unwritten_count()
    return (written + pages - 1) // pages + JOURNAL_BLOCKS + _anchors_left(store)


def blocks_freed(store, changes, victims):
    """Return how many blocks a commit frees."""
    live = _index_behind(store, changes, victims).live_addresses()
    remaining = {address[0]: True for address in live}
    freed = [
        logical
        for logical, physical in enumerate(store.places)
        if physical is not None and physical not in store.bad and logical not in remaining
    ]
    return len(freed) + _anchors_left(store)


def kept_blocks(store):
    """Return how many blocks a commit leaves for failures."""
    spare = max(0, spare_blocks(store.shape[0]) - len(store.bad))
    return LEAST_KEPT + spare + (1 if store.anchor in store.bad else 0)


def needed_blocks(store):
    """Return how many blocks are to be available behind a commit."""
    blocks, pages = store.shape
    return block_share(blocks, pages) + NEEDED_BESIDE + kept_blocks(store)


def available_blocks(store):
    """Return how many blocks are free or clean."""
    return len(free_blocks(store)) + len(store.clean)


def victims_of(store, changes):
    """Return the data blocks that a commit of the changes empties."""
    ordered = _data_blocks_by_leaves(store, changes)
    available = available_blocks(store)
    kept = kept_blocks(store)
    needed = needed_blocks(store)
    for many in range(len(ordered) + 1):
        victims = ordered[:many]
        taken = blocks_taken(store, changes, victims)
        if taken + kept <= available and needed + taken <= available + blocks_freed(store, changes, victims):
            return victims
    return []


def _index_behind(store, changes, victims):
    """Return the index as it stands when the leaves of a commit are put and its nodes are not written yet."""
    index = store.index.copied()
    for key, value in changes:
        if value is None:
            index.drop(key)
    for block in victims:
        index.mark_block(block)
    for key, value in leaves_written(store, changes, victims):
        index.put(key, NOWHERE, value)
    return index


def _anchors_left(store):
    """Return how many anchors a commit leaves for another one."""
    return 0 if has_two_pages(store) else 1


def _data_blocks_by_leaves(store, changes):
    leaves = {}
    dropped = {key: True for key, value in changes if value is None}
    for key in store.index.keys_sorted():
        block = store.index.find(key)[0][0]
        if key not in dropped:
            leaves[block] = leaves.get(block, 0) + 1
    return sorted(data_blocks(store), key=lambda block: (leaves.get(block, 0), block))

"""What is wanted so that no block is erased much more often than the others."""

from tidemark.space.limits import spare_blocks
from tidemark.space.order import data_blocks, free_blocks

ALLOWED_LEAD = 16


def hot_blocks(store):
    """Return the ascending list of the hot blocks among the free and the clean ones."""
    bound = _least_wear(store) + ALLOWED_LEAD + len(store.bad)
    unused = sorted(free_blocks(store) + store.clean)
    return [block for block in unused if store.recorded[block] > bound]


def move_wanted(store):
    """Return the data block that is to move to another physical block, or None."""
    if not _is_uneven(store):
        return None
    least = _least_wear(store)
    for logical in data_blocks(store):
        if store.recorded[store.places[logical]] == least:
            return logical
    return None


def anchor_wanted(store):
    """Return True if another block is to become the anchor."""
    if not _is_uneven(store) or move_wanted(store) is not None or store.anchor in store.bad:
        return False
    return store.recorded[store.anchor] == _least_wear(store)


def _is_uneven(store):
    worn = len(store.bad) > spare_blocks(store.shape[0])
    return not worn and hot_blocks(store) != []


def _least_wear(store):
    # A chip whose blocks are all bad has no block that could be hot.
    return min([many for block, many in enumerate(store.recorded) if block not in store.bad], default=0)

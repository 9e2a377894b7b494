"""The free blocks and the data blocks of a store."""


def free_blocks(store):
    """Return the free blocks in the order in which they are taken."""
    _, _, _, _, _, places, _, _ = store.root
    used = [*places, *store.places, *store.bad, *store.clean, store.home, store.anchor]
    free = [block for block in range(len(store.recorded)) if block not in used]
    return sorted(free, key=lambda block: (store.recorded[block], block))


def data_blocks(store):
    """Return the ascending list of the data blocks."""
    _, _, _, _, journal, _, _, _ = store.root
    return [
        logical
        for logical, physical in enumerate(store.places)
        if physical is not None and physical not in store.bad and logical not in journal
    ]

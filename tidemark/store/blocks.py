"""Programs and erases of a store, and how it takes its blocks."""

from tidemark.errors import WornOut
from tidemark.space.order import free_blocks
from tidemark.store.power import is_done


def become_bad(store, block):
    """Let a physical block become bad."""
    if block not in store.bad:
        store.bad.append(block)


def program_page(store, block, page, content):
    """Program a page of a physical block, and return True if this succeeds."""
    done = is_done(store.chip.program(block, page, content))
    if not done:
        become_bad(store, block)
    return done


def take_block(store):
    """Erase free blocks until one erase succeeds; its block is clean then."""
    while True:
        free = free_blocks(store)
        if not free:
            raise WornOut("there is no free block")
        if _erase_block(store, free[0]):
            store.clean.append(free[0])
            return


def block_for_use(store):
    """Return a clean block, which is not clean any more."""
    if not store.clean:
        take_block(store)
    return store.clean.pop(0)


def open_block(store):
    """Give a logical block without a place a block for use, and return its number."""
    block = block_for_use(store)
    _, _, _, _, _, standing, _, _ = store.root
    unplaced = [
        logical for logical, physical in enumerate(store.places) if physical is None and standing[logical] is None
    ]
    store.places[unplaced[0]] = block
    return unplaced[0]


def _erase_block(store, block):
    done = is_done(store.chip.erase(block))
    store.recorded[block] += 1
    if not done:
        become_bad(store, block)
    return done

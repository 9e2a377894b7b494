"""Writing the root of a store into its anchor."""

from tidemark.space.anchor import has_two_pages
from tidemark.store.blocks import block_for_use, program_page


def renew_anchor(store):
    """Let a block for use become the anchor."""
    store.anchor = block_for_use(store)
    store.position = 0


def ensure_anchor(store):
    """Let the anchor have two pages left."""
    if not has_two_pages(store):
        renew_anchor(store)


def write_root(store, epoch, tree, journal, places):
    """Write the next root with these parts, which is the standing root then."""
    number = store.root[1] + 1
    while True:
        ensure_anchor(store)
        # A failure before changes the recorded erases and the bad blocks, so they are told anew each time.
        told = (tuple(places), tuple(store.recorded), tuple(store.bad))
        root = ("root", number, epoch, tree, journal, *told)
        if program_page(store, store.anchor, store.position, root):
            break
        store.position += 2
    program_page(store, store.anchor, store.position + 1, ("mark", number))
    store.root = root
    store.home = store.anchor
    store.position += 2

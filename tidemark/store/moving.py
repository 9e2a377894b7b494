"""Levelling: moving a block or the anchor while one is wanted to move."""

from tidemark.space.levelling import anchor_wanted, move_wanted
from tidemark.store.blocks import block_for_use, program_page
from tidemark.store.roots import ensure_anchor, renew_anchor, write_root


def level(store):
    """Move blocks and the anchor until nothing is wanted."""
    for _ in range(3 * store.shape[0] + 3):
        logical = move_wanted(store)
        if logical is not None:
            ensure_anchor(store)
            _move_block(store, logical)
        elif anchor_wanted(store):
            renew_anchor(store)
        else:
            return
        _, _, epoch, tree, journal, _, _, _ = store.root
        write_root(store, epoch, tree, journal, store.places)


def _move_block(store, logical):
    """Copy the live pages of a logical block into another physical block."""
    live = sorted({address[1] for address in store.index.live_addresses() if address[0] == logical})
    source = store.places[logical]
    while True:
        target = block_for_use(store)
        if _copy_pages(store, source, target, live):
            break
    store.places[logical] = target


def _copy_pages(store, source, target, pages):
    """Copy pages from one physical block to another, and return True if no program fails."""
    for page in pages:
        _, content = store.chip.read(source, page)
        if not program_page(store, target, page, content):
            return False
    return True

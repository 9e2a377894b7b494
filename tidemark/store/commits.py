"""Commits: a new tree on the chip, with a root of the next epoch."""

from tidemark.space.victims import blocks_taken, leaves_written, victims_of
from tidemark.store.blocks import open_block, program_page, take_block
from tidemark.store.moving import level
from tidemark.store.roots import write_root


def commit(store, changes):
    """Make changes in the index, and write it with a root of the next epoch."""
    victims = victims_of(store, changes)
    taken = blocks_taken(store, changes, victims)
    leaves = leaves_written(store, changes, victims)
    _empty_index(store, changes, victims)
    store.head = None
    for _ in range(taken - len(store.clean)):
        take_block(store)
    _write_leaves(store, leaves)
    _write_nodes(store)
    journal = (open_block(store), open_block(store))
    _begin_epoch(store, journal)
    level(store)


def _empty_index(store, changes, victims):
    """Drop what the changes drop, and let no node stand in the victims."""
    for key, value in changes:
        if value is None:
            store.index.drop(key)
    for block in victims:
        store.index.mark_block(block)


def _write_leaves(store, leaves):
    for key, value in leaves:
        address = _write_content(store, ("item", 0, 0, False, key, value))
        store.index.put(key, address, value)


def _write_nodes(store):
    found = store.index.next_node()
    while found is not None:
        level_number, number, children = found
        address = _write_content(store, ("node", level_number, children))
        store.index.write_node(level_number, number, address)
        found = store.index.next_node()


def _write_content(store, content):
    """Write a content into the head until a program succeeds, and return its address."""
    while True:
        if store.head is None or store.head[1] == store.shape[1]:
            store.head = (open_block(store), 0)
        logical, page = store.head
        done = program_page(store, store.places[logical], page, content)
        store.head = (logical, page + 1)
        if done:
            return logical, page


def _begin_epoch(store, journal):
    """Write the root of the next epoch, whose journal is empty."""
    epoch = store.root[2] + 1
    places = _places_in_use(store, journal)
    write_root(store, epoch, store.index.root_address(), journal, places)
    store.places = places
    store.head = None
    store.item_count = 0
    store.journal_at = (0, 0)
    store.unmarked = False


def _places_in_use(store, journal):
    """Return the places without the logical blocks that hold nothing."""
    live = {address[0]: True for address in store.index.live_addresses()}
    return [
        physical if logical in live or logical in journal else None for logical, physical in enumerate(store.places)
    ]

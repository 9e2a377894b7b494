"""Formatting, mounting and peeking at chips."""

from tidemark.errors import NoVolume, WornOut
from tidemark.space.limits import spare_blocks
from tidemark.store.changes import changed_values
from tidemark.store.commits import commit
from tidemark.store.found import counted_items, found_index, standing_root
from tidemark.store.journal import make_item
from tidemark.store.moving import level
from tidemark.store.power import is_done
from tidemark.store.store import Store

BLANK = ("blank",)


def format_chip(chip):
    """Erase a chip and write its first root."""
    _begin(chip)
    bad = _erase_all(chip)
    blocks, pages = chip.shape
    if len(bad) > spare_blocks(blocks):
        raise WornOut("too many blocks cannot be erased")
    anchor, first, second = [block for block in range(blocks) if block not in bad][:3]
    places = (first, second) + (None,) * (blocks - 2)
    root = ("root", 1, 1, None, (0, 1), places, (1,) * blocks, tuple(bad))
    for page in range(0, pages - 1, 2):
        if is_done(chip.program(anchor, page, root)):
            # A mark that fails does not read blank either, and that is all that counts.
            is_done(chip.program(anchor, page + 1, ("mark", 1)))
            return
    raise WornOut("the first root cannot be programmed")


def mount_store(chip, settle):
    """Return the store of a chip, behind a commit of the settling changes."""
    _begin(chip)
    scan = chip.scan()
    home, root, index = _found(scan)
    store = Store(chip, home, root, index, _first_position(scan[home]))
    level(store)
    _make_items(store.index, scan, root)
    commit(store, settle(_index_values(store.index)))
    return store


def peek_values(chip, settle):
    """Return the values that a mount of the chip would show."""
    scan = chip.scan()
    _, root, index = _found(scan)
    _make_items(index, scan, root)
    values = _index_values(index)
    return changed_values(values, settle(dict(values)))


def _begin(chip):
    chip.generation += 1
    chip.switch_on()


def _erase_all(chip):
    """Erase all blocks, and return those whose erase fails."""
    bad = []
    for block in range(chip.shape[0]):
        if not is_done(chip.erase(block)):
            bad.append(block)
    return bad


def _found(scan):
    """Return the home, the standing root and the index of a scan."""
    standing = standing_root(scan)
    if standing is None:
        raise NoVolume("no root counts")
    home, root = standing
    index = found_index(scan, root)
    if index is None:
        raise NoVolume("the index cannot be loaded")
    return home, root, index


def _first_position(readings):
    """Return the least even page from which on all pages of a block read blank."""
    position = 0
    while any([reading != BLANK for reading in readings[position:]]):
        position += 2
    return position


def _make_items(index, scan, root):
    for address, item in counted_items(scan, root):
        make_item(index, item[4], item[5], address)


def _index_values(index):
    return {key: index.find(key)[1] for key in index.keys_sorted()}

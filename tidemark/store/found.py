"""What the scan of a chip tells: its standing root, its index, and the items of its journal."""

from tidemark.index.loading import load_index

BLANK = ("blank",)
DAMAGED = ("damaged",)


def standing_root(scan):
    """Return the block and the content of the standing root of a scan, or None."""
    standing = None
    for block, readings in enumerate(scan):
        for root in _roots_that_count(readings):
            if standing is None or root[1] > standing[1][1]:
                standing = (block, root)
    return standing


def reading_of(scan, places, address):
    """Return the reading of an address, damaged where there is no page."""
    logical, page = address
    physical = places[logical] if logical < len(places) else None
    if physical is None or physical >= len(scan) or page >= len(scan[physical]):
        return DAMAGED
    return scan[physical][page]


def counted_items(scan, root):
    """Return the addresses and contents of the items of a root's journal that count."""
    _, _, epoch, _, journal, places, _, _ = root
    addresses = [(logical, page) for logical in journal for page in range(len(scan[0]))]
    readings = [reading_of(scan, places, address) for address in addresses]
    chain = []
    counted = 0
    for at, reading in enumerate(readings):
        if not _is_item(reading, epoch, len(chain) + 1):
            continue
        chain.append((addresses[at], reading[1]))
        is_last = reading[1][3]
        if is_last and at + 1 < len(readings) and readings[at + 1] != BLANK:
            counted = len(chain)
    return chain[:counted]


def found_index(scan, root):
    """Return the index of the tree of a root, or None if it cannot be loaded."""
    _, _, _, tree, _, places, _, _ = root
    return load_index(tree, lambda address: reading_of(scan, places, address))


def _roots_that_count(readings):
    """Return the roots of a block that stand on even pages before a page that is not blank."""
    counting = []
    for page in range(0, len(readings) - 1, 2):
        reading = readings[page]
        if reading[0] == "right" and reading[1][0] == "root" and readings[page + 1] != BLANK:
            counting.append(reading[1])
    return counting


def _is_item(reading, epoch, index):
    return reading[0] == "right" and reading[1][0] == "item" and reading[1][1:3] == (epoch, index)

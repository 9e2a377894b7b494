"""Reports of what the pages of a chip hold."""

from tidemark.inspector.defects import index_defects, root_defects
from tidemark.store.found import counted_items, found_index, standing_root

NO_ROOT = (0, 0, "no root")


class Report:
    """What a scan tells: defects, a volume or None, and how many pages read as what."""

    def __init__(self, defects, volume, pages):
        self.defects = list(defects)
        self.volume = volume
        self.pages = dict(pages)


def inspect_scan(scan):
    """Return the report of a scan."""
    pages = _pages_counted(scan)
    standing = standing_root(scan)
    if standing is None:
        return Report([NO_ROOT], None, pages)
    block, root = standing
    in_index = index_defects(scan, block, root)
    volume = None if in_index else _volume_told(scan, root)
    return Report(root_defects(scan, block, root) + in_index, volume, pages)


def inspect_flash(chip):
    """Return the report of one scan of a chip."""
    return inspect_scan(chip.scan())


def _pages_counted(scan):
    pages = {"blank": 0, "damaged": 0, "root": 0, "item": 0, "node": 0, "mark": 0}
    for readings in scan:
        for reading in readings:
            word = reading[1][0] if reading[0] == "right" else reading[0]
            pages[word] += 1
    return pages


def _volume_told(scan, root):
    """Return the number and the epoch of a root, and how many keys and items that count it has."""
    items = counted_items(scan, root)
    used = {key: True for key in found_index(scan, root).keys_sorted()}
    for _, item in items:
        used[item[4]] = item[5] is not None
    return root[1], root[2], len([key for key in used if used[key]]), len(items)

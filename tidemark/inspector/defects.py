"""The defects of a root and of its index."""

from tidemark.index.levels import CHILDREN, ROOT_LEVEL, ROOT_NUMBER, child_numbers
from tidemark.store.found import reading_of

# The level of the place of a key, below the nodes of level 0.
LEAF_LEVEL = -1


def root_defects(scan, block, root):
    """Return the list of the defects of a root that stands on a block."""
    _, number, _, _, journal, places, erases, bad = root
    blocks = len(scan)
    named = [physical for physical in places if physical is not None]
    found = []
    if len(places) != blocks:
        found.append("map length")
    if len(erases) != blocks:
        found.append("erases length")
    if any([told >= blocks for told in [*named, *journal, *bad]]):
        found.append("block number")
    if len(set(named)) < len(named):
        found.append("map twice")
    if block in named:
        found.append("anchor mapped")
    if len(set(journal)) < len(journal) or any([_place_of(places, logical) is None for logical in journal]):
        found.append("journal")
    page = _first_page(scan[block], number)
    return [(block, page, word) for word in found]


def index_defects(scan, block, root):
    """Return the list of the defects of the index of a root that stands on a block."""
    _, _, _, tree, _, places, _, _ = root
    found = []
    # What is named is looked at in order, the next one last: its level, its number and its address.
    left = [] if tree is None else [(ROOT_LEVEL, ROOT_NUMBER, tree)]
    while left:
        level, number, address = left.pop()
        reading = reading_of(scan, places, address)
        word = _word_of_page(reading, level, number)
        physical = _place_of(places, address[0])
        if physical is None:
            found.append((block, 0, "unmapped"))
        elif word is not None:
            found.append((physical, address[1], word))
        elif level != LEAF_LEVEL:
            left.extend(_named_below(reading[1], level, number)[::-1])
    return found


def _place_of(places, logical):
    """Return the physical block of a logical block, or None if it has none."""
    return places[logical] if logical < len(places) else None


def _first_page(readings, number):
    """Return the first page of a block that reads as a root with this number."""
    pages = [
        page
        for page, reading in enumerate(readings)
        if reading[0] == "right" and reading[1][0] == "root" and reading[1][1] == number
    ]
    return min(pages, default=0)


def _word_of_page(reading, level, number):
    """Return the word of the defect of a page that is read for a place of the index, or None."""
    if reading[0] != "right":
        return reading[0]
    return _word_of_leaf(reading[1], number) if level == LEAF_LEVEL else _word_of_node(reading[1], level)


def _word_of_node(content, level):
    if content[0] != "node":
        return "other content"
    _, found, children = content
    if found != level or len(children) != CHILDREN or all([child is None for child in children]):
        return "level"
    return None


def _word_of_leaf(content, key):
    if content[0] != "item" or content[5] is None:
        return "other content"
    return None if content[4] == key else "key"


def _named_below(node, level, number):
    """Return the levels, the numbers and the addresses of what a node names."""
    _, _, children = node
    return [
        (level - 1, child, address)
        for child, address in zip(child_numbers(number), children)
        if address is not None
    ]

"""Loading an index from the readings of its pages."""

from tidemark.index.index import Index
from tidemark.index.levels import CHILDREN, ROOT_LEVEL, ROOT_NUMBER, child_numbers


def load_index(root, reading_of):
    """Return the index whose root node has this address, or None if it cannot be loaded."""
    index = Index()
    if root is None or _load_node(index, (ROOT_LEVEL, ROOT_NUMBER), root, reading_of):
        return index
    return None


def _load_node(index, place, address, reading_of):
    """Load a node with everything below it, and return True if that could be done."""
    level, number = place
    children = _node_children(reading_of(address), level)
    if children is None:
        return False
    for child, below in zip(child_numbers(number), children):
        if below is not None and not _load_child(index, (level - 1, child), below, reading_of):
            return False
    # Behind its children the node is the next node of the index.
    index.write_node(level, number, address)
    return True


def _load_child(index, place, address, reading_of):
    level, number = place
    if level >= 0:
        return _load_node(index, place, address, reading_of)
    value = _item_value(reading_of(address), number)
    if value is None:
        return False
    index.put(number, address, value)
    return True


def _node_children(reading, level):
    """Return the children that the reading of a node of this level tells, or None if it tells none."""
    if reading[0] != "right" or reading[1][0] != "node":
        return None
    _, found, children = reading[1]
    if found != level or len(children) != CHILDREN or not any([child is not None for child in children]):
        return None
    return children


def _item_value(reading, key):
    """Return the value that the reading of this key tells, or None if it tells none."""
    if reading[0] != "right" or reading[1][0] != "item":
        return None
    _, _, _, _, found, value = reading[1]
    return value if found == key else None

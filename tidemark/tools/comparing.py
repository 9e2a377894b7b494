"""The differences between two nodes and all that lies below them."""

from tidemark.files.arguments import check_argument
from tidemark.files.names import path_with
from tidemark.files.walking import follow


def differences(tree, path, *, other, other_path):
    """Return the paths and the changes by which what is at one path differs from what is at another one."""
    check_argument("path", path)
    check_argument("path", other_path)
    pairs = [((), follow(tree, path), follow(other, other_path))]
    found = []
    while pairs:
        way, first, second = pairs.pop()
        node = _node_or_none(tree, first)
        other_node = _node_or_none(other, second)
        change = _change_between(node, other_node)
        if change is not None:
            found.append((path_with(way), change))
        pairs.extend(_pairs_below(way, node, other_node))
    return found


def _node_or_none(tree, number):
    return None if number is None else tree.nodes[number]


def _change_between(node, other_node):
    """Return the change from one node to the other, each of which may be None, or None without one."""
    if other_node is None:
        return "removed"
    if node is None:
        return "added"
    if node.kind != other_node.kind:
        return "kind"
    if node.kind == "directory" or node.body == other_node.body:
        return None
    return "octets" if node.kind == "file" else "target"


def _pairs_below(way, node, other_node):
    """Return the ways that go on from a way, the last one first, with the numbers that they lead to."""
    numbers = _numbers_by_names(node)
    other_numbers = _numbers_by_names(other_node)
    names = sorted(set(numbers) | set(other_numbers))
    return [((*way, name), numbers.get(name), other_numbers.get(name)) for name in reversed(names)]


def _numbers_by_names(node):
    return {} if node is None else dict(node.entries())

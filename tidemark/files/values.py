"""Trees of files as values by keys."""

from tidemark.files.node import Node
from tidemark.files.tree import FileTree
from tidemark.pages.numbers import number_row, row_number

NODE_KEYS = 4096
CHUNK_OCTETS = 448

KIND_OCTETS = {"file": 1, "directory": 2, "link": 3}
KINDS = {1: "file", 2: "directory", 3: "link"}

# The characters of names and targets lie among these, which have the codes from 45 on.
FIRST_CODE = 45
CODED = "-./0123456789:;<=>?@ABCDEFGHIJKLMNOPQRSTUVWXYZ[\\]^_`abcdefghijklmnopqrstuvwxyz"

ROOT_VALUE = (2, 0, 1, 0, 0, 0)


def node_values(number, node):
    """Return a dict of the keys and values of a node."""
    body = _body_octets(node)
    first = NODE_KEYS * number
    values = {first: (KIND_OCTETS[node.kind], *number_row(node.links, 2), *number_row(len(body), 3))}
    for start in range(0, len(body), CHUNK_OCTETS):
        chunk = _without_zeros(body[start:start + CHUNK_OCTETS])
        if chunk:
            values[first + start // CHUNK_OCTETS + 1] = chunk
    return values


def tree_values(tree):
    """Return a dict of the keys and values of a tree."""
    values = {}
    for number in sorted(tree.nodes):
        values.update(node_values(number, tree.nodes[number]))
    return values


def tree_of(values):
    """Return the tree whose values these are."""
    tree = FileTree()
    numbers = [key // NODE_KEYS for key in values if key % NODE_KEYS == 0]
    tree.nodes = {number: _node_of(values, NODE_KEYS * number) for number in numbers}
    return tree


def changes_between(before, after):
    """Return the list of changes from one tree to the other."""
    changes = []
    for number in sorted(set(before.nodes) | set(after.nodes)):
        old = before.nodes.get(number)
        new = after.nodes.get(number)
        if old != new:
            changes.extend(_changed_values(_values_or_none(number, old), _values_or_none(number, new)))
    return changes


def settle(values):
    """Return the list of changes that leave no node without a name."""
    if not values:
        return [(0, ROOT_VALUE)]
    nameless = {key // NODE_KEYS: True for key in values if key % NODE_KEYS == 0 and _links_in(values[key]) == 0}
    return [(key, None) for key in sorted(values) if key // NODE_KEYS in nameless]


def _body_octets(node):
    if node.kind == "file":
        return node.body
    if node.kind == "link":
        return tuple(_codes(node.body))
    octets = []
    for name, number in node.body:
        octets.extend([len(name), *_codes(name), number])
    return tuple(octets)


def _codes(text):
    return [ord(character) for character in text]


def _text(codes):
    return "".join([CODED[code - FIRST_CODE] for code in codes])


def _without_zeros(octets):
    end = len(octets)
    # Most zeros stand in whole chunks of zeros, which need no look at each octet.
    if octets == (0,) * end:
        return ()
    while octets[end - 1] == 0:
        end -= 1
    return octets[:end]


def _links_in(value):
    return row_number(list(value[1:3]))


def _node_of(values, first):
    """Return the node whose keys begin with this one."""
    value = values[first]
    kind = KINDS[value[0]]
    octets = _octets_of(values, first, row_number(list(value[3:])))
    return Node(kind, _body_of(kind, octets), links=_links_in(value))


def _octets_of(values, first, length):
    octets = []
    for start in range(0, length, CHUNK_OCTETS):
        chunk = values.get(first + start // CHUNK_OCTETS + 1, ())
        octets.extend(chunk)
        octets.extend([0] * (min(CHUNK_OCTETS, length - start) - len(chunk)))
    return tuple(octets)


def _body_of(kind, octets):
    if kind == "file":
        return octets
    if kind == "link":
        return _text(octets)
    entries = []
    at = 0
    while at < len(octets):
        end = at + 1 + octets[at]
        entries.append((_text(octets[at + 1:end]), octets[end]))
        at = end + 1
    return tuple(entries)


def _values_or_none(number, node):
    return {} if node is None else node_values(number, node)


def _changed_values(old, new):
    return [(key, new.get(key)) for key in sorted(set(old) | set(new)) if old.get(key) != new.get(key)]

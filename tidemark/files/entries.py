"""How entries, names and octets change in a tree of files."""

from tidemark.errors import AlreadyExists, DirectoryFull, FileTooLarge, TooManyFiles
from tidemark.files.arguments import LONGEST_FILE
from tidemark.files.tree import MOST_NODES
from tidemark.files.walking import place_of

MOST_ENTRIES = 64


def make_node(tree, path, node):
    """Make a new node at the place of a path."""
    directory, name = place_of(tree, path)
    check_new_entry(tree, directory, name)
    free = [number for number in range(MOST_NODES) if number not in tree.nodes]
    if not free:
        raise TooManyFiles(f"all {MOST_NODES} numbers are in use")
    tree.nodes[free[0]] = node
    set_entry(tree, directory, name, free[0])


def check_new_entry(tree, directory, name):
    """Raise an error unless a directory may get a new entry with this name."""
    if tree.entry(directory, name) is not None:
        raise AlreadyExists(f"there is an entry {name} already")
    check_room(tree, directory)


def check_room(tree, directory):
    """Raise DirectoryFull if a directory has no room for one more entry."""
    if tree.nodes[directory].measure() >= MOST_ENTRIES:
        raise DirectoryFull(f"a directory has {MOST_ENTRIES} entries")


def set_entry(tree, directory, name, number):
    """Let the entry with this name lead to a node, whether there is one or not."""
    node = tree.nodes[directory]
    entries = [entry for entry in node.body if entry[0] != name]
    tree.nodes[directory] = node.with_body(tuple(sorted([*entries, (name, number)])))


def remove_entry(tree, directory, name):
    """Remove the entry with this name."""
    node = tree.nodes[directory]
    tree.nodes[directory] = node.with_body(tuple([entry for entry in node.body if entry[0] != name]))


def lose_name(tree, number):
    """Let a node count one name less."""
    node = tree.nodes[number]
    tree.nodes[number] = node.with_links(node.links - 1)
    remove_unused(tree, number)


def remove_unused(tree, number):
    """Remove a node that counts no name and is not open."""
    if tree.nodes[number].links == 0 and not tree.is_open(number):
        del tree.nodes[number]


def written(body, offset, octets):
    """Return the octets of a file behind a write."""
    if not octets:
        return body
    if offset + len(octets) > LONGEST_FILE:
        raise FileTooLarge(f"a file has at most {LONGEST_FILE} octets")
    return resized(body[:offset], offset) + tuple(octets) + body[offset + len(octets):]


def resized(body, length):
    """Return the octets of a file with another length."""
    return body[:length] + (0,) * (length - len(body))

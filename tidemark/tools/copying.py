"""Copying a node with all that lies below it."""

from tidemark.errors import AlreadyExists
from tidemark.files.arguments import MOST_OCTETS, check_argument
from tidemark.files.names import path_with
from tidemark.files.walking import follow, names_to, place_of
from tidemark.tools.listing import ways_from
from tidemark.tools.making import make_all


def copies(tree, source, target):
    """Return the operations that copy the node at a path, and all that lies below it, to another path."""
    number = follow(tree, source)
    directory, name = place_of(tree, target)
    if tree.entry(directory, name) is not None:
        raise AlreadyExists(f"there is an entry {name} already")
    top = [*names_to(tree, directory), name]
    first_paths = {}
    operations = []
    for way, below in ways_from(tree, number):
        path = path_with([*top, *way])
        if below in first_paths:
            operations.append(("link", first_paths[below], path))
        else:
            first_paths[below] = path
            operations.extend(_first_copy(tree.nodes[below], path))
    return operations


def copy_tree(volume, source, target):
    """Copy the node at a path, and all that lies below it, and return the number of operations."""
    tree = volume.tree_now()
    check_argument("path", source)
    check_argument("path", target)
    volume.check_writable()
    return make_all(volume, copies(tree, source, target))


def _first_copy(node, path):
    """Return the operations that make a node like this one."""
    if node.kind == "directory":
        return [("mkdir", path)]
    if node.kind == "link":
        return [("symlink", node.body, path)]
    # A file without octets is written, too, for this is what makes it.
    starts = range(0, max(1, node.measure()), MOST_OCTETS)
    return [("write", path, start, list(node.body[start:start + MOST_OCTETS])) for start in starts]

"""Removing a node with all that lies below it."""

from tidemark.files.arguments import check_argument
from tidemark.files.names import path_with
from tidemark.files.walking import entry_of, names_to
from tidemark.tools.listing import ways_from
from tidemark.tools.making import make_all


def removals(tree, path):
    """Return the operations that remove the entry of a path and all that lies below it."""
    directory, name, number = entry_of(tree, path)
    top = [*names_to(tree, directory), name]
    operations = []
    for way, below in reversed(ways_from(tree, number)):
        word = "rmdir" if tree.nodes[below].kind == "directory" else "unlink"
        operations.append((word, path_with([*top, *way])))
    return operations


def remove_tree(volume, path):
    """Remove the entry of a path and all that lies below it, and return the number of operations."""
    tree = volume.tree_now()
    check_argument("path", path)
    volume.check_writable()
    return make_all(volume, removals(tree, path))

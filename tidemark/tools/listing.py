"""The listing of a node: the node and all nodes below it, way by way."""

from tidemark.files.arguments import check_argument
from tidemark.files.names import path_with
from tidemark.files.operations import status_of
from tidemark.files.walking import follow


def list_tree(tree, path):
    """Return the paths and the statuses of the node at a path and of all nodes below it."""
    check_argument("path", path)
    top = follow(tree, path)
    return [(path_behind(path, way), status_of(tree, number)) for way, number in ways_from(tree, top)]


def ways_from(tree, number):
    """Return the ways and the numbers of a node and of all nodes below it."""
    found = []
    # The ways to go on with, the next one last, so that no depth of directories is too deep.
    left = [((), number)]
    while left:
        way, reached = left.pop()
        found.append((way, reached))
        for name, below in reversed(tree.nodes[reached].entries()):
            left.append(((*way, name), below))
    return found


def path_behind(path, way):
    """Return the path of the element at the end of a way from the node at a path."""
    if not way:
        return path
    return path_with(way) if path == "/" else path + path_with(way)

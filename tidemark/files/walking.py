"""Following paths through a tree of files."""

from tidemark.errors import NotDirectory, NotFound, RootFixed, TooManyLinks
from tidemark.files.names import names_of
from tidemark.files.tree import ROOT

MOST_LINKS = 8


def follow(tree, path):
    """Return the number of the node that an absolute path leads to."""
    return _follow_names(tree, names_of(path))


def place_of(tree, path):
    """Return the number of the directory and the name that a path ends with."""
    names = names_of(path)
    if not names:
        raise RootFixed("the root has no place")
    directory = _follow_names(tree, names[:-1])
    if tree.nodes[directory].kind != "directory":
        raise NotDirectory(f"{path} leads through a node that is not a directory")
    return directory, names[-1]


def entry_of(tree, path):
    """Return the number of the directory, the name and the number of the node of the entry of a path."""
    directory, name = place_of(tree, path)
    number = tree.entry(directory, name)
    if number is None:
        raise NotFound(f"{path} has no entry")
    return directory, name, number


def names_to(tree, number):
    """Return the names that lead from the root to a directory, without links."""
    above = _entries_above(tree)
    names = []
    reached = number
    while reached in above:
        reached, name = above[reached]
        names.append(name)
    return names[::-1]


def lies_within(tree, number, top):
    """Return True if a directory is another one or lies below it."""
    above = _entries_above(tree)
    reached = number
    while reached != top and reached in above:
        reached = above[reached][0]
    return reached == top


def _follow_names(tree, names):
    left = names
    reached = ROOT
    links = 0
    while left:
        number = _entry_with(tree, reached, left[0])
        left = left[1:]
        node = tree.nodes[number]
        if node.kind != "link":
            reached = number
            continue
        if links == MOST_LINKS:
            raise TooManyLinks("a path leads through too many links")
        links += 1
        left = names_of(node.body) + left
        if node.body.startswith("/"):
            reached = ROOT
    return reached


def _entry_with(tree, directory, name):
    if tree.nodes[directory].kind != "directory":
        raise NotDirectory(f"the node before {name} is not a directory")
    number = tree.entry(directory, name)
    if number is None:
        raise NotFound(f"there is no entry {name}")
    return number


def _entries_above(tree):
    """Return, for each node that an entry leads to, the directory and the name of such an entry."""
    above = {}
    for number, node in tree.nodes.items():
        for name, below in node.entries():
            above[below] = (number, name)
    return above

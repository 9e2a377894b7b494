"""Calls of a volume, told by tuples."""

from tidemark.files.operations import OPERATIONS
from tidemark.tools.copying import copy_tree
from tidemark.tools.removing import remove_tree

FURTHER_CALLS = ("sync", "batch", "remove_tree", "copy_tree")


def is_call(call):
    """Return True if the tuple begins with the name of a call."""
    return call[0] in OPERATIONS or call[0] in FURTHER_CALLS


def make_call(volume, call):
    """Make the call that a tuple names, and return its result."""
    if call[0] == "sync":
        return volume.sync()
    if call[0] == "batch":
        return volume.batch(call[1])
    if call[0] == "remove_tree":
        return remove_tree(volume, call[1])
    if call[0] == "copy_tree":
        return copy_tree(volume, call[1], call[2])
    return volume.perform(call)

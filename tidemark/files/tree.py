"""The tree of files: its nodes by their numbers, and its handles."""

from tidemark.files.node import Node

ROOT = 0
MOST_NODES = 256
MOST_HANDLES = 16


class FileTree:
    """A tree of files, which has the root alone at first."""

    def __init__(self):
        self.nodes = {ROOT: Node("directory", ())}
        self.handles = [None] * MOST_HANDLES

    def copied(self):
        """Return a copy with a dict and a list of its own."""
        tree = FileTree()
        tree.nodes = dict(self.nodes)
        tree.handles = list(self.handles)
        return tree

    def is_open(self, number):
        """Return True if a handle leads to the node."""
        return number in self.handles

    def entry(self, directory, name):
        """Return the number that an entry of a directory leads to, or None if there is no such entry."""
        for found, number in self.nodes[directory].body:
            if found == name:
                return number
        return None

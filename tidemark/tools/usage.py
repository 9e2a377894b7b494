"""What a node and all nodes below it use."""

from tidemark.files.arguments import check_argument
from tidemark.files.values import node_values
from tidemark.files.walking import follow
from tidemark.tools.listing import ways_from


def usage(tree, path):
    """Return how many files, directories, links, octets of files and keys there are at a path and below it."""
    check_argument("path", path)
    top = follow(tree, path)
    numbers = sorted({number for _, number in ways_from(tree, top)})
    kinds = [tree.nodes[number].kind for number in numbers]
    octets = [tree.nodes[number].measure() for number in numbers if tree.nodes[number].kind == "file"]
    keys = [len(node_values(number, tree.nodes[number])) for number in numbers]
    return kinds.count("file"), kinds.count("directory"), kinds.count("link"), sum(octets), sum(keys)

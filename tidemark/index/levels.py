"""How the nodes of an index lie above the keys."""

CHILDREN = 32
LEVELS = 4
ROOT_LEVEL = 3
ROOT_NUMBER = 0


def child_numbers(number):
    """Return the numbers of the children of a node: of nodes one level below, or of keys below level 0."""
    first = CHILDREN * number
    return list(range(first, first + CHILDREN))

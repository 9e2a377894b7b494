"""For how many pages keys are counted."""

from tidemark.index.levels import CHILDREN, LEVELS


def nodes_counted(keys):
    """Return how many nodes cover at least one of the keys."""
    many = 0
    numbers = keys
    for _ in range(LEVELS):
        numbers = sorted({number // CHILDREN for number in numbers})
        many += len(numbers)
    return many


def pages_counted(keys):
    """Return for how many pages the keys are counted."""
    return len(set(keys)) + 2 * nodes_counted(keys)

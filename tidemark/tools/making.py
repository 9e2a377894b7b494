"""Calls that make several operations, each of which is a change of its own."""


def make_all(volume, operations):
    """Make operations one after another, and return how many there are."""
    for operation in operations:
        volume.carry_out(operation)
    return len(operations)

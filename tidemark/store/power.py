"""What an answer of a chip means for the one who asked."""

from tidemark.errors import PowerCut


def is_done(answer):
    """Return True if a program or an erase succeeded, and False if it failed."""
    if answer in ("cut", "refused"):
        raise PowerCut("a program or an erase was cut or refused")
    return answer == "done"

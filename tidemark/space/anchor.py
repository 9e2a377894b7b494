"""The room of the anchor, which holds the roots."""


def has_two_pages(store):
    """Return True if the anchor has a page for a root and one for its mark left."""
    return store.position + 1 < store.shape[1]

"""How many blocks may become bad, and for how many pages a chip has room."""

# What the limit leaves out: the blocks of the journal and the anchor, and what a commit needs beside its share.
FIXED_BLOCKS = 3
COMMIT_BLOCKS = 7
COMMIT_PAGES = 28


def spare_blocks(blocks):
    """Return how many blocks of a chip may become bad."""
    return blocks // 16 + 1


def block_share(blocks, pages):
    """Return the least share of blocks with which the limit is greatest."""
    share = 0
    for tried in range(blocks):
        if _limit_with(blocks, pages, tried) > _limit_with(blocks, pages, share):
            share = tried
    return share


def page_limit(blocks, pages):
    """Return for how many pages keys may be counted."""
    return _limit_with(blocks, pages, block_share(blocks, pages))


def _limit_with(blocks, pages, share):
    room = max(0, blocks - spare_blocks(blocks) - FIXED_BLOCKS - (share + COMMIT_BLOCKS))
    if share + 2 <= room <= 2 * (share + 2):
        return (share * pages - COMMIT_PAGES) * room // (share + 2)
    return 0

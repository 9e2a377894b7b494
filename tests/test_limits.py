"""Points 32 and 33: spare blocks, the share and the limit."""

import unittest

from tidemark.space.limits import block_share, page_limit, spare_blocks

TABLE = {(24, 16): (5, 52), (24, 32): (4, 133), (32, 16): (7, 112), (32, 32): (6, 266), (48, 16): (10, 264)}
TABLE[(48, 32)] = (10, 584)

SEVERAL = [(24, 28, 4), (26, 19, 5), (29, 16, 6), (33, 20, 6), (41, 16, 8)]


def limit_of(blocks, pages, share):
    """L of the document, for one share."""
    room = blocks - (blocks // 16 + 1) - 3 - (share + 7)
    if room < 0:
        room = 0
    if room < share + 2 or room > 2 * (share + 2):
        return 0
    return ((share * pages - 28) * room) // (share + 2)


class Limits(unittest.TestCase):
    def test_spare_blocks(self):
        spare = {24: 2, 31: 2, 32: 3, 47: 3, 48: 4}
        self.assertEqual({blocks: spare_blocks(blocks) for blocks in spare}, spare)
        for blocks in range(24, 49):
            self.assertEqual(spare_blocks(blocks), blocks // 16 + 1)

    def test_table(self):
        for (blocks, pages), (share, limit) in TABLE.items():
            self.assertEqual((block_share(blocks, pages), page_limit(blocks, pages)), (share, limit))

    def test_every_shape(self):
        for blocks in range(24, 49):
            for pages in range(16, 33):
                limits = [limit_of(blocks, pages, share) for share in range(blocks)]
                self.assertEqual(page_limit(blocks, pages), max(limits), (blocks, pages))
                self.assertEqual(block_share(blocks, pages), limits.index(max(limits)), (blocks, pages))

    def test_least_of_several_shares(self):
        # In these shapes two shares have the greatest limit.
        for blocks, pages, share in SEVERAL:
            limits = [limit_of(blocks, pages, tried) for tried in range(blocks)]
            self.assertEqual((limits.count(max(limits)), limits.index(max(limits))), (2, share))
            self.assertEqual(block_share(blocks, pages), share)

    def test_shapes_somewhat_beyond(self):
        for blocks, pages in ((23, 16), (20, 16), (49, 33), (14, 16), (16, 4)):
            limits = [limit_of(blocks, pages, share) for share in range(blocks)]
            self.assertEqual(page_limit(blocks, pages), max(limits))
            self.assertEqual(block_share(blocks, pages), limits.index(max(limits)))


if __name__ == "__main__":
    unittest.main()

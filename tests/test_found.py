"""Points 44 and 50, and addresses: what a scan tells."""

import unittest

from samples import whole
from stores import planted, root_of, value_of

from tidemark.store.found import counted_items, found_index, reading_of, standing_root

BLANK = ("blank",)
DAMAGED = ("damaged",)


def right(content):
    return ("right", content)


def blank_scan(blocks=24, pages=16):
    return [[BLANK] * pages for block in range(blocks)]


def with_pages(pages, shape=(24, 16)):
    """A blank scan with these readings; `pages` is a dict from (block, page)."""
    scan = blank_scan(*shape)
    for (block, page), reading in pages.items():
        scan[block][page] = reading
    return scan


def numbered(number, epoch=1):
    return root_of(24, {0: 1, 1: 2}, number=number, epoch=epoch)


class Roots(unittest.TestCase):
    """Point 44."""

    def standing(self, pages, shape=(24, 16)):
        return standing_root(with_pages(pages, shape))

    def test_no_root(self):
        self.assertIsNone(self.standing({}))
        self.assertIsNone(self.standing({(0, 0): right(("mark", 1)), (0, 1): right(("mark", 1))}))
        self.assertIsNone(self.standing({(0, 0): DAMAGED, (0, 1): DAMAGED}))

    def test_next_page(self):
        for behind in (right(("mark", 7)), right(("mark", 9)), DAMAGED, right(numbered(1))):
            self.assertEqual(self.standing({(3, 4): right(numbered(7)), (3, 5): behind}), (3, numbered(7)))
        self.assertIsNone(self.standing({(3, 4): right(numbered(7))}))
        self.assertIsNone(self.standing({(3, 4): right(numbered(7)), (3, 6): DAMAGED}))

    def test_odd_pages(self):
        self.assertIsNone(self.standing({(3, 5): right(numbered(7)), (3, 6): DAMAGED}))
        pages = {(3, 2): right(numbered(6)), (3, 3): right(numbered(7)), (3, 4): right(("mark", 6))}
        self.assertEqual(self.standing(pages), (3, numbered(6)))

    def test_last_page(self):
        self.assertIsNone(self.standing({(3, 15): right(numbered(7))}))
        self.assertIsNone(self.standing({(3, 16): right(numbered(7)), (4, 0): DAMAGED}, (24, 17)))
        pages = {(3, 14): right(numbered(7)), (3, 15): DAMAGED, (3, 16): right(numbered(8)), (4, 0): DAMAGED}
        self.assertEqual(self.standing(pages, (24, 17)), (3, numbered(7)))

    def test_greatest_number(self):
        pages = {(3, 0): right(numbered(7)), (3, 1): DAMAGED, (1, 2): right(numbered(9)), (1, 3): DAMAGED}
        self.assertEqual(self.standing(pages), (1, numbered(9)))
        pages.update({(9, 0): right(numbered(10)), (9, 1): DAMAGED})
        self.assertEqual(self.standing(pages), (9, numbered(10)))
        # A root that does not count does not matter.
        pages.update({(8, 0): right(numbered(11))})
        self.assertEqual(self.standing(pages), (9, numbered(10)))

    def test_equal_numbers(self):
        pages = {(3, 4): right(numbered(7, 2)), (3, 5): DAMAGED, (3, 8): right(numbered(7, 3)), (3, 9): DAMAGED}
        self.assertEqual(self.standing(pages), (3, numbered(7, 2)))
        pages.update({(5, 0): right(numbered(7, 4)), (5, 1): DAMAGED})
        self.assertEqual(self.standing(pages), (3, numbered(7, 2)))
        pages.update({(2, 14): right(numbered(7, 5)), (2, 15): DAMAGED})
        self.assertEqual(self.standing(pages), (2, numbered(7, 5)))
        pages.update({(2, 12): right(numbered(6, 6)), (2, 13): DAMAGED})
        self.assertEqual(self.standing(pages), (2, numbered(7, 5)))


class Addresses(unittest.TestCase):
    SCAN = with_pages({(5, 3): right(("mark", 5)), (23, 15): DAMAGED})

    def reading(self, places, address):
        return reading_of(self.SCAN, places, address)

    def test_logical_blocks(self):
        places = (None, 5, 23)
        self.assertEqual(self.reading(places, (1, 3)), right(("mark", 5)))
        self.assertEqual(self.reading(places, (1, 4)), BLANK)
        self.assertEqual(self.reading(places, (2, 15)), DAMAGED)
        self.assertEqual(self.reading(list(places), (1, 3)), right(("mark", 5)))

    def test_no_place(self):
        self.assertEqual(self.reading((None, 5), (0, 3)), DAMAGED)
        self.assertEqual(self.reading((None, 5), (2, 3)), DAMAGED)
        self.assertEqual(self.reading((), (0, 0)), DAMAGED)

    def test_no_such_block_or_page(self):
        self.assertEqual(self.reading((23, 24, 47), (0, 0)), BLANK)
        self.assertEqual(self.reading((23, 24, 47), (1, 0)), DAMAGED)
        self.assertEqual(self.reading((23, 24, 47), (2, 0)), DAMAGED)
        self.assertEqual(self.reading((5,), (0, 15)), BLANK)
        self.assertEqual(self.reading((5,), (0, 16)), DAMAGED)
        self.assertEqual(self.reading((5,), (0, 31)), DAMAGED)


class Items(unittest.TestCase):
    """Point 50: journal blocks 0 and 1 stand in the blocks 1 and 2."""

    ROOT = root_of(24, {0: 1, 1: 2})

    def item(self, index, last=True, epoch=3, key=None):
        return right(("item", epoch, index, last, index if key is None else key, (index,)))

    def counted(self, first, second=(), root=ROOT):
        scan = blank_scan()
        scan[1][: len(first)] = first
        scan[2][: len(second)] = second
        found = counted_items(scan, root)
        for (logical, page), item in found:
            self.assertEqual(scan[root[5][logical]][page], right(item))
        return [address for address, item in found]

    def test_no_item(self):
        self.assertEqual(self.counted([]), [])
        self.assertEqual(self.counted([right(("mark", 0))]), [])

    def test_batches_with_marks(self):
        first = [self.item(1, False), self.item(2), right(("mark", 2)), self.item(3), right(("mark", 3))]
        self.assertEqual(self.counted(first), [(0, 0), (0, 1), (0, 3)])

    def test_next_page_that_reads_blank(self):
        self.assertEqual(self.counted([self.item(1)]), [])
        first = [self.item(1), self.item(2)]
        self.assertEqual(self.counted(first), [(0, 0)])
        self.assertEqual(self.counted(first + [DAMAGED]), [(0, 0), (0, 1)])
        self.assertEqual(self.counted(first + [BLANK, DAMAGED]), [(0, 0)])

    def test_without_a_last_one(self):
        first = [self.item(1, False), self.item(2, False), DAMAGED]
        self.assertEqual(self.counted(first), [])
        first = [self.item(1), self.item(2, False), self.item(3, False), DAMAGED]
        self.assertEqual(self.counted(first), [(0, 0)])
        first = [self.item(1, False), self.item(2), self.item(3, False), self.item(4), DAMAGED]
        self.assertEqual(self.counted(first), [(0, 0), (0, 1), (0, 2), (0, 3)])

    def test_pages_that_are_passed_over(self):
        others = [DAMAGED, right(("mark", 9)), BLANK, self.item(1, epoch=2), self.item(1, epoch=4), self.item(3)]
        others += [self.item(0), right(("node", 0, ((0, 0),) * 32)), right(self.ROOT)]
        # Its number and epoch are those of an epoch and an index.
        others += [right(root_of(24, {0: 1}, number=3, epoch=1)), right(root_of(24, {0: 1}, number=3, epoch=2))]
        for other in others:
            self.assertEqual(self.counted([other, self.item(1), DAMAGED]), [(0, 1)], other)
            self.assertEqual(self.counted([self.item(1, False), other, self.item(2), DAMAGED])[1:], [(0, 2)], other)

    def test_an_item_twice(self):
        first = [self.item(1, key=7), self.item(1, key=8), self.item(2), DAMAGED]
        self.assertEqual(self.counted(first), [(0, 0), (0, 2)])

    def test_last_page_of_the_first_block(self):
        first = [self.item(index + 1, False) for index in range(15)] + [self.item(16)]
        self.assertEqual(self.counted(first), [])
        self.assertEqual(len(self.counted(first, [right(("mark", 16))])), 16)
        self.assertEqual(len(self.counted(first, [DAMAGED])), 16)
        self.assertEqual(self.counted(first, [self.item(17), DAMAGED])[-1], (1, 0))
        self.assertEqual(len(self.counted(first, [BLANK, DAMAGED])), 0)

    def test_last_page_of_the_second_block(self):
        second = [self.item(index + 1) for index in range(16)]
        self.assertEqual(self.counted([], second), [(1, page) for page in range(15)])
        self.assertEqual(self.counted([], second[:15] + [right(("mark", 15))]), [(1, page) for page in range(15)])

    def test_order_of_the_journal(self):
        root = root_of(24, {0: 1, 1: 2}, journal=(1, 0))
        self.assertEqual(self.counted([self.item(2), DAMAGED], [self.item(1), DAMAGED], root), [(1, 0), (0, 0)])

    def test_journal_block_without_a_place(self):
        without_first = root_of(24, {1: 2})
        self.assertEqual(self.counted([self.item(1), DAMAGED], [self.item(1), DAMAGED], without_first), [(1, 0)])
        without_second = root_of(24, {0: 1})
        first = [self.item(index + 1, False) for index in range(15)] + [self.item(16)]
        # Its pages read damaged, which is not blank.
        self.assertEqual(len(self.counted(first, [], without_second)), 16)
        self.assertEqual(self.counted([], [self.item(1), DAMAGED], without_second), [])

    def test_dropping_items(self):
        drop = right(("item", 3, 1, True, 9, None))
        scan = with_pages({(1, 0): drop, (1, 1): DAMAGED})
        self.assertEqual(counted_items(scan, self.ROOT), [((0, 0), drop[1])])

    def test_physical_blocks(self):
        root = root_of(24, {4: 9, 7: 3}, journal=(7, 4))
        scan = with_pages({(3, 0): self.item(1), (3, 1): self.item(2), (9, 0): DAMAGED, (3, 2): DAMAGED})
        self.assertEqual([address for address, item in counted_items(scan, root)], [(7, 0), (7, 1)])


class Indexes(unittest.TestCase):
    def test_tree_of_the_root(self):
        chip = planted({2: [5, 6, 70], 4: [4096]})
        before = whole(chip)
        scan = chip.scan()
        index = found_index(scan, standing_root(scan)[1])
        self.assertEqual(index.keys_sorted(), [5, 6, 70, 4096])
        self.assertEqual(index.find(4096), ((4, 0), value_of(4096)))
        self.assertEqual(index.unwritten_count(), 0)
        self.assertEqual(whole(chip), before)

    def test_no_tree(self):
        index = found_index(blank_scan(), numbered(1))
        self.assertEqual((index.keys_sorted(), index.root_address()), ([], None))

    def test_index_that_cannot_be_loaded(self):
        chip = planted({2: [5, 6, 70], 4: [4096]})
        root = standing_root(chip.scan())[1]
        for block, page in ((3, 0), (5, 0), (3, 3)):
            for reading in (DAMAGED, BLANK, right(("mark", 1))):
                scan = chip.scan()
                scan[block][page] = reading
                self.assertIsNone(found_index(scan, root))
        places = root[5][:4] + (None,) + root[5][5:]
        self.assertIsNone(found_index(chip.scan(), root[:5] + (places,) + root[6:]))
        for tree in ((23, 0), (2, 31), (47, 0)):
            self.assertIsNone(found_index(chip.scan(), root[:3] + (tree,) + root[4:]))


if __name__ == "__main__":
    unittest.main()

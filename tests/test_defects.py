"""Points 100 and 101: the defects of a root and of its index."""

import unittest

from samples import mark
from stores import Numbers, planted, root_of

from tidemark.inspector.defects import index_defects, root_defects
from tidemark.inspector.inspecting import inspect_scan
from tidemark.store.found import found_index, standing_root

BLANK = ("blank",)
DAMAGED = ("damaged",)
NONE = (None,) * 32


def right(content):
    return ("right", content)


def empty_scan(blocks=24, pages=16):
    return [[BLANK] * pages for _ in range(blocks)]


def scan_with(root, block=0, page=0, blocks=24, pages=16):
    """A scan in which a root stands before a mark."""
    scan = empty_scan(blocks, pages)
    scan[block][page : page + 2] = [right(root), right(mark(root[1]))]
    return scan


def changed(root, **parts):
    names = ("kind", "number", "epoch", "tree", "journal", "places", "erases", "bad")
    return tuple(parts.get(name, part) for name, part in zip(names, root))


def good_root(blocks=24, places=None, **told):
    return root_of(blocks, places or {0: 1, 1: 2, 2: 3}, **told)


def words(defects):
    return [word for block, page, word in defects]


class RootDefects(unittest.TestCase):
    def check(self, root, expected, block=0, blocks=24):
        scan = scan_with(root, block, blocks=blocks)
        found = root_defects(scan, block, root)
        self.assertEqual(found, [(block, 0, word) for word in expected])
        report = inspect_scan(scan)
        self.assertEqual((report.defects, report.volume is not None), (found, True))

    def test_no_defect(self):
        self.check(good_root(), [])
        self.check(good_root(bad=(23, 0)), [])
        self.check(good_root(places={0: 23, 1: 22}), [])
        self.check(changed(good_root(48), journal=(1, 0)), [], blocks=48)

    def test_map_length(self):
        root = good_root()
        self.check(changed(root, places=root[5][:23]), ["map length"])
        self.check(changed(root, places=root[5] + (None,)), ["map length"])
        self.check(changed(root, places=root[5][:2]), ["map length"])

    def test_erases_length(self):
        root = good_root()
        self.check(changed(root, erases=(1,) * 23), ["erases length"])
        self.check(changed(root, erases=(1,) * 25), ["erases length"])
        self.check(changed(root, erases=()), ["erases length"])

    def test_block_number(self):
        self.check(good_root(places={0: 1, 1: 2, 5: 24}), ["block number"])
        self.check(good_root(places={0: 47, 1: 2}), ["block number"])
        self.check(good_root(bad=(3, 24)), ["block number"])
        self.check(good_root(blocks=47, places={0: 46, 1: 2}), [], blocks=47)
        # A journal beyond the blocks has no place either.
        self.check(good_root(journal=(0, 24)), ["block number", "journal"])

    def test_journal_beyond_the_blocks_in_a_longer_map(self):
        root = good_root(journal=(0, 24))
        self.check(changed(root, places=root[5] + (9,)), ["map length", "block number"])

    def test_map_twice(self):
        self.check(good_root(places={0: 1, 1: 1}), ["map twice"])
        self.check(good_root(places={0: 1, 1: 2, 9: 5, 23: 5, 7: 5}), ["map twice"])
        # None may stand there many times.
        self.check(good_root(places={0: 1, 1: 2}), [])

    def test_anchor_mapped(self):
        self.check(good_root(places={0: 1, 1: 2, 4: 7}), ["anchor mapped"], block=7)
        self.check(good_root(places={0: 1, 1: 2, 4: 7}), [], block=8)
        self.check(good_root(places={0: 0, 1: 2}), ["anchor mapped"])

    def test_journal(self):
        self.check(good_root(journal=(0, 0)), ["journal"])
        self.check(good_root(journal=(0, 3)), ["journal"])
        self.check(good_root(journal=(9, 1)), ["journal"])
        root = good_root(journal=(0, 5))
        self.check(changed(root, places=root[5][:3]), ["map length", "journal"])
        self.check(good_root(journal=(0, 1, 0)), ["journal"])
        self.check(good_root(journal=()), [])

    def test_all_together(self):
        root = changed(good_root(), places=(0, 0, 30, None), erases=(), journal=(0, 0))
        self.check(
            root, ["map length", "erases length", "block number", "map twice", "anchor mapped", "journal"]
        )

    def test_first_page_with_this_number(self):
        root = good_root(journal=(0, 0))
        other = changed(root, epoch=9, journal=(0, 1))
        for page, kept in ((4, 4), (2, 2), (1, 1), (0, 0)):
            scan = scan_with(root, 5, 6)
            scan[5][page] = right(other)
            self.assertEqual(root_defects(scan, 5, root), [(5, kept, "journal")])
        # A root with another number is passed over, whatever page it stands on.
        scan = scan_with(root, 5, 6)
        scan[5][0] = right(changed(other, number=4))
        scan[5][1] = right(mark(5))
        scan[5][2] = DAMAGED
        self.assertEqual(root_defects(scan, 5, root), [(5, 6, "journal")])

    def test_first_page_may_hold_a_root_that_does_not_count(self):
        root = good_root(journal=(0, 0))
        scan = scan_with(root, 13, 4)
        # It stands before a blank page.
        scan[13][2] = right(root)
        self.assertEqual(standing_root(scan), (13, root))
        self.assertEqual(inspect_scan(scan).defects, [(13, 2, "journal")])


class IndexDefects(unittest.TestCase):
    """The tree of keys 0, 1, 40 and 4096: leaves in block 5, nodes in block 7."""

    def setUp(self):
        chip = planted({2: [0, 1, 40], 4: [4096]}, nodes_in=6, places={2: 5, 4: 9, 6: 7})
        self.scan = chip.scan()
        self.block, self.root = standing_root(self.scan)
        self.assertEqual(self.root[3], (6, 6))
        self.pages = {self.scan[7][page][1]: page for page in range(7)}

    def check(self, expected, root=None):
        root = self.root if root is None else root
        found = index_defects(self.scan, self.block, root)
        self.assertEqual(found, expected)
        self.assertEqual(found_index(self.scan, root) is None, found != [])

    def place(self, block, page, reading):
        self.scan[block][page] = reading

    def node_at(self, page):
        return self.scan[7][page][1]

    def with_child(self, page, child, address):
        """Let a child of the node on a page have another address."""
        _, level, children = self.node_at(page)
        self.place(7, page, right(("node", level, children[:child] + (address,) + children[child + 1 :])))

    def test_no_defect(self):
        self.check([])
        self.check([], changed(self.root, tree=None))

    def test_layout(self):
        """The nodes stand in the order of point 28."""
        levels = [(page, self.node_at(page)[1]) for page in range(7)]
        self.assertEqual(levels, [(0, 0), (1, 0), (2, 1), (3, 0), (4, 1), (5, 2), (6, 3)])

    def test_root_node(self):
        for reading, word in (
            (BLANK, "blank"),
            (DAMAGED, "damaged"),
            (right(mark(1)), "other content"),
            (right(self.root), "other content"),
            (self.scan[5][0], "other content"),
            (self.scan[7][5], "level"),
            (right(("node", 3, NONE)), "level"),
            (right(("node", 4, self.node_at(6)[2])), "level"),
            (right(("node", 3, self.node_at(6)[2][:31])), "level"),
            (right(("node", 3, self.node_at(6)[2] + (None,))), "level"),
        ):
            self.place(7, 6, reading)
            self.check([(7, 6, word)])

    def test_nodes_in_the_middle(self):
        for page, level in ((5, 2), (4, 1), (2, 1), (0, 0), (1, 0), (3, 0)):
            kept = self.scan[7][page]
            for reading, word in (
                (BLANK, "blank"),
                (DAMAGED, "damaged"),
                (right(mark(1)), "other content"),
                (self.scan[5][0], "other content"),
                (self.scan[7][6], "level"),
                (right(("node", level, NONE)), "level"),
                (right(("node", level, ())), "level"),
            ):
                self.place(7, page, reading)
                self.check([(7, page, word)])
            self.place(7, page, kept)
        self.check([])

    def test_leaves(self):
        for reading, word in (
            (BLANK, "blank"),
            (DAMAGED, "damaged"),
            (right(mark(1)), "other content"),
            (self.scan[7][0], "other content"),
            (right(("item", 0, 0, False, 1, None)), "other content"),
            (right(("item", 0, 0, False, 2, None)), "other content"),
            (right(("item", 0, 0, False, 2, (1,))), "key"),
            (right(("item", 7, 7, True, 4097, ())), "key"),
        ):
            self.place(5, 1, reading)
            self.check([(5, 1, word)])
        # The epoch, the index and `last` of a leaf do not matter, and a value may be empty.
        self.place(5, 1, right(("item", 9, 9, True, 1, ())))
        self.check([])

    def test_order_of_several(self):
        """Each page comes before its children, and the children come in order; below a defect nothing is told."""
        self.place(5, 2, DAMAGED)
        self.place(9, 0, BLANK)
        self.place(5, 0, right(mark(1)))
        self.check([(5, 0, "other content"), (5, 2, "damaged"), (9, 0, "blank")])
        self.place(7, 1, DAMAGED)
        self.check([(5, 0, "other content"), (7, 1, "damaged"), (9, 0, "blank")])
        self.place(7, 2, right(("node", 2, self.node_at(2)[2])))
        self.check([(7, 2, "level"), (9, 0, "blank")])
        self.place(7, 5, BLANK)
        self.check([(7, 5, "blank")])

    def test_unmapped(self):
        for logical in (6, 2, 4):
            places = tuple(None if at == logical else place for at, place in enumerate(self.root[5]))
            many = {6: 1, 2: 3, 4: 1}[logical]
            self.check([(0, 0, "unmapped")] * many, changed(self.root, places=places))

    def test_beyond_the_map(self):
        self.check([(0, 0, "unmapped")], changed(self.root, places=self.root[5][:6]))
        self.check([(0, 0, "unmapped")], changed(self.root, places=()))
        self.check([(0, 0, "unmapped")], changed(self.root, tree=(24, 0)))
        self.check([(0, 0, "unmapped")], changed(self.root, tree=(47, 31)))
        self.with_child(0, 5, (30, 2))
        self.check([(0, 0, "unmapped")])

    def test_unmapped_is_told_at_the_block_of_the_root(self):
        scan = scan_with(changed(self.root, tree=(20, 3)), 12, 4)
        self.assertEqual(inspect_scan(scan).defects, [(12, 0, "unmapped")])

    def test_beyond_the_pages_and_blocks(self):
        self.check([(7, 16, "damaged")], changed(self.root, tree=(6, 16)))
        self.check([(7, 31, "damaged")], changed(self.root, tree=(6, 31)))
        places = self.root[5][:6] + (40,) + self.root[5][7:]
        self.check([(40, 6, "damaged")], changed(self.root, places=places))
        places = self.root[5][:6] + (24,) + self.root[5][7:]
        self.check([(24, 6, "damaged")], changed(self.root, places=places))
        self.with_child(1, 8, (2, 16))
        self.check([(5, 16, "damaged")])

    def test_longer_map(self):
        places = self.root[5] + (7,)
        self.check([], changed(self.root, tree=(24, 6), places=places))

    def test_page_named_twice(self):
        self.place(5, 0, DAMAGED)
        self.with_child(0, 9, (2, 0))
        self.check([(5, 0, "damaged"), (5, 0, "damaged")])
        self.place(5, 0, right(("item", 0, 0, False, 9, (1,))))
        self.check([(5, 0, "key")])
        # The node of level 2 names one node of level 1 twice, with one leaf that fits one of the places.
        self.setUp()
        self.with_child(5, 7, (6, 4))
        self.check([(9, 0, "key")])

    def test_node_that_names_itself(self):
        """It is looked at once more, one level below."""
        self.with_child(6, 1, (6, 6))
        self.check([(7, 6, "level")])

    def test_nothing_changes(self):
        before = [list(readings) for readings in self.scan]
        index_defects(self.scan, self.block, self.root).append(1)
        root_defects(self.scan, self.block, self.root).append(1)
        self.assertEqual(self.scan, before)
        self.check([])


def plain_defects(scan, block, root, level, number, address):
    """Point 101, page by page."""
    places = root[5]
    if address[0] >= len(places) or places[address[0]] is None:
        return [(block, 0, "unmapped")]
    physical, page = places[address[0]], address[1]
    exists = physical < len(scan) and page < len(scan[0])
    reading = scan[physical][page] if exists else DAMAGED
    if reading[0] != "right":
        return [(physical, page, reading[0])]
    content = reading[1]
    if level < 0:
        if content[0] != "item" or content[5] is None:
            return [(physical, page, "other content")]
        return [] if content[4] == number else [(physical, page, "key")]
    if content[0] != "node":
        return [(physical, page, "other content")]
    if content[1] != level or len(content[2]) != 32 or set(content[2]) == {None}:
        return [(physical, page, "level")]
    found = []
    for child, below in enumerate(content[2]):
        if below is not None:
            found += plain_defects(scan, block, root, level - 1, 32 * number + child, below)
    return found


class Drawn(unittest.TestCase):
    def test_drawn_damage(self):
        numbers = Numbers(11)
        chip = planted({2: [0, 1, 40, 41], 4: [4096, 8192, 70000], 5: [1048575, 33000]}, nodes_in=6, shape=(24, 32))
        whole = chip.scan()
        block, root = standing_root(whole)
        seen = {}
        for _ in range(600):
            scan = [list(readings) for readings in whole]
            used = [(at, page) for at in range(24) for page in range(32) if at != block and scan[at][page] != BLANK]
            for _ in range(numbers.below(4)):
                at, page = numbers.one_of(used)
                source, other = numbers.one_of(used)
                scan[at][page] = numbers.one_of([BLANK, DAMAGED, whole[source][other], right(mark(3))])
            found = index_defects(scan, block, root)
            self.assertEqual(found, plain_defects(scan, block, root, 3, 0, root[3]))
            self.assertEqual(found == [], found_index(scan, root) is not None)
            for word in words(found) or ["none"]:
                seen[word] = seen.get(word, 0) + 1
        for word in ("none", "blank", "damaged", "other content", "level", "key"):
            self.assertGreater(seen[word], 20, seen)


if __name__ == "__main__":
    unittest.main()

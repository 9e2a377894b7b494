"""Points 15, 16 and 18: contents, which of them fit a page, and their bodies."""

import unittest

from samples import NONE_OF_32, ORDINARY, item, mark, node, root

from tidemark.errors import InvalidContent
from tidemark.pages.contents import content_body, fits_page
from tidemark.pages.pages import write_page

TOP = 4294967295

AT_THE_BOUNDS = [
    root(number=TOP),
    root(number=0),
    root(epoch=TOP),
    root(tree=(47, 31)),
    root(tree=(0, 0)),
    root(tree=None),
    root(journal=(47,)),
    root(journal=(0,) * 48),
    root(places=(47, None, 0)),
    root(places=(None,) * 48),
    root(erases=(TOP, 0)),
    root(erases=(5,) * 48),
    root(bad=(47,)),
    root(bad=(1,) * 48),
    item(epoch=TOP),
    item(index=TOP),
    item(key=TOP),
    item(value=(255, 0)),
    item(value=(1,) * 448),
    item(value=()),
    item(value=None),
    node(level=255),
    node(level=0),
    node(children=((47, 31),) * 32),
    node(children=NONE_OF_32),
    mark(TOP),
    mark(0),
]

BEYOND_THE_BOUNDS = [
    root(number=TOP + 1),
    root(epoch=TOP + 1),
    root(tree=(48, 31)),
    root(tree=(47, 32)),
    root(tree=(255, 255)),
    root(journal=(0, 48)),
    root(journal=(255,)),
    root(journal=(0,) * 49),
    root(places=(None, 48)),
    root(places=(255,)),
    root(places=(None,) * 49),
    root(erases=(0, TOP + 1)),
    root(erases=(0,) * 49),
    root(bad=(48, 0)),
    root(bad=(0,) * 49),
    item(epoch=TOP + 1),
    item(index=TOP + 1),
    item(key=TOP + 1),
    item(value=(0, 256)),
    item(value=(256,) + (0,) * 447),
    item(value=(0,) * 449),
    item(value=(0,) * 491),
    item(value=(0,) * 492),
    node(level=256),
    node(children=((48, 0),) + (None,) * 31),
    node(children=(None,) * 31 + ((0, 32),)),
    node(children=(None,) * 31 + ((255, 255),)),
    node(children=(None,) * 31),
    node(children=(None,) * 33),
    node(children=()),
    mark(TOP + 1),
]


class Fits(unittest.TestCase):
    """Point 16."""

    def test_contents_that_fit(self):
        for content in ORDINARY + AT_THE_BOUNDS:
            self.assertIs(fits_page(content), True, content)

    def test_contents_that_do_not_fit(self):
        for content in BEYOND_THE_BOUNDS:
            self.assertIs(fits_page(content), False, content)

    def test_contents_that_do_not_fit_have_no_body_and_no_page(self):
        for content in BEYOND_THE_BOUNDS:
            with self.assertRaises(InvalidContent):
                content_body(content)
            with self.assertRaises(InvalidContent):
                write_page(content)

    def test_every_entry_is_looked_at(self):
        for at in range(48):
            others = (0,) * at
            self.assertFalse(fits_page(root(journal=others + (48,))))
            self.assertFalse(fits_page(root(places=others + (48,))))
            self.assertFalse(fits_page(root(erases=others + (TOP + 1,))))
            self.assertFalse(fits_page(root(bad=others + (48,))))
        for at in range(32):
            children = [None] * 32
            children[at] = (48, 0)
            self.assertFalse(fits_page(node(children=tuple(children))))


class Bodies(unittest.TestCase):
    """Point 18."""

    def test_mark(self):
        self.assertEqual(content_body(mark(66051)), [0, 1, 2, 3])
        self.assertEqual(content_body(mark(TOP)), [255] * 4)

    def test_node(self):
        children = ((1, 2), None, (47, 31)) + (None,) * 28 + ((0, 0),)
        self.assertEqual(
            content_body(node(3, children)), [3, 1, 2, 255, 255, 47, 31] + [255, 255] * 28 + [0, 0]
        )

    def test_item_with_a_value(self):
        self.assertEqual(
            content_body(item(66051, 258, True, 16909060, (7, 0, 0))),
            [0, 1, 2, 3, 0, 0, 1, 2, 1, 1, 2, 3, 4, 1, 0, 3, 7, 0, 0],
        )

    def test_item_without_a_value(self):
        self.assertEqual(content_body(item(1, 2, False, 3, None)), [0, 0, 0, 1, 0, 0, 0, 2, 0, 0, 0, 0, 3, 0])

    def test_item_with_an_empty_value(self):
        self.assertEqual(content_body(item(1, 2, False, 3, ())), [0, 0, 0, 1, 0, 0, 0, 2, 0, 0, 0, 0, 3, 1, 0, 0])

    def test_item_with_the_longest_value(self):
        body = content_body(item(1, 2, True, 3, (9,) * 448))
        self.assertEqual(body, [0, 0, 0, 1, 0, 0, 0, 2, 1, 0, 0, 0, 3, 1, 1, 192] + [9] * 448)

    def test_root(self):
        self.assertEqual(
            content_body(root(66051, 515, (2, 5), (0, 1), (4, None, 6), (1, 66051), (9, 8, 7))),
            [0, 1, 2, 3, 0, 0, 2, 3, 2, 5, 2, 0, 1, 3, 4, 255, 6, 2, 0, 0, 0, 1, 0, 1, 2, 3, 3, 9, 8, 7],
        )

    def test_root_without_anything(self):
        self.assertEqual(
            content_body(root(1, 2, None, (), (), (), ())), [0, 0, 0, 1, 0, 0, 0, 2, 255, 255, 0, 0, 0, 0]
        )

    def test_longest_root(self):
        body = content_body(root(1, 1, None, (1,) * 48, (2,) * 48, (3,) * 48, (4,) * 48))
        self.assertEqual(
            body,
            [0, 0, 0, 1, 0, 0, 0, 1, 255, 255, 48] + [1] * 48 + [48] + [2] * 48
            + [48] + [0, 0, 0, 3] * 48 + [48] + [4] * 48,
        )

    def test_body_is_new(self):
        for content in ORDINARY:
            body = content_body(content)
            body.append(1)
            self.assertEqual(content_body(content), body[:-1])


if __name__ == "__main__":
    unittest.main()

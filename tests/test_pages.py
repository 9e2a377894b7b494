"""Points 17 and 20: contents as pages, and what pages read as."""

import unittest

from samples import ORDINARY, item, mark, node, page_of, root

from tidemark.pages.contents import content_body
from tidemark.pages.pages import read_page, write_page
from tidemark.pages.sums import page_sums

KINDS = {"root": 1, "item": 2, "node": 3, "mark": 4}


class Writing(unittest.TestCase):
    """Point 17."""

    def test_example_of_the_document(self):
        self.assertEqual(write_page(("mark", 1))[:10], [4, 0, 5, 9, 232, 0, 0, 0, 1, 0])

    def test_each_page_octet_by_octet(self):
        for content in ORDINARY:
            page = write_page(content)
            self.assertEqual(page, page_of(KINDS[content[0]], content_body(content)))
            self.assertEqual(len(page), 512)

    def test_pages_written_out(self):
        self.assertEqual(write_page(mark(66051)), [4, 0, 10, 19, 196, 0, 1, 2, 3] + [0] * 503)
        children = ((1, 2),) + (None,) * 30 + ((47, 31),)
        self.assertEqual(
            write_page(node(2, children))[:12], [3, 60, 26, 100, 74, 2, 1, 2, 255, 255, 255, 255]
        )
        self.assertEqual(
            write_page(item(1, 2, False, 3, (7,)))[:24],
            [2, 0, 17, 32, 236, 0, 0, 0, 1, 0, 0, 0, 2, 0, 0, 0, 0, 3, 1, 0, 1, 7, 0, 0],
        )
        self.assertEqual(
            write_page(root(1, 1, None, (0, 1), (1, 2), (3,), ()))[:28],
            [1, 2, 13, 254, 66, 0, 0, 0, 1, 0, 0, 0, 1, 255, 255, 2, 0, 1, 2, 1, 2, 1, 0, 0, 0, 3, 0, 0],
        )

    def test_sums_stand_in_octets_1_to_4(self):
        for content in ORDINARY:
            page = write_page(content)
            first, second = page_sums(page)
            self.assertEqual(page[1:5], [first // 256, first % 256, second // 256, second % 256])

    def test_page_is_new(self):
        page = write_page(mark())
        page[0] = 9
        self.assertEqual(write_page(mark())[0], 4)


class Reading(unittest.TestCase):
    """Point 20."""

    def check_damaged(self, page):
        self.assertEqual(len(page), 512)
        self.assertEqual(read_page(page), ("damaged",))

    def test_written_pages_read_right(self):
        for content in ORDINARY:
            reading = read_page(write_page(content))
            self.assertEqual(reading, ("right", content))
            if content[0] == "item":
                self.assertIs(reading[1][3], content[3])

    def test_blank(self):
        self.assertEqual(read_page([255] * 512), ("blank",))

    def test_nearly_blank(self):
        for at in (0, 1, 4, 5, 255, 511):
            page = [255] * 512
            page[at] = 254
            self.check_damaged(page)

    def test_one_octet(self):
        for octet in range(255):
            self.check_damaged([octet] * 512)

    def test_one_changed_octet_anywhere(self):
        for content in (root(), item(), item(value=None), node(), mark()):
            written = write_page(content)
            for at in range(512):
                for other in (written[at] ^ 1, written[at] ^ 128, 255 - written[at]):
                    page = list(written)
                    page[at] = other
                    self.check_damaged(page)

    def test_two_exchanged_octets(self):
        for content in (root(), item(), node(), mark(258)):
            written = write_page(content)
            for one in range(24):
                for two in list(range(one + 1, 32)) + [511]:
                    if written[one] != written[two]:
                        page = list(written)
                        page[one], page[two] = page[two], page[one]
                        self.check_damaged(page)

    def test_octet_behind_the_body_with_right_sums(self):
        for content in (root(), item(), item(value=None), node(), mark()):
            body = content_body(content)
            self.check_damaged(page_of(KINDS[content[0]], body + [1]))
            self.check_damaged(page_of(KINDS[content[0]], body + [0] * (506 - len(body)) + [1]))

    def test_wrong_sums_alone(self):
        for at in (1, 2, 3, 4):
            page = write_page(node())
            page[at] = (page[at] + 1) % 256
            self.check_damaged(page)

    def test_unknown_kinds_with_right_sums(self):
        for kind in (0, 5, 6, 255):
            for body in ([], content_body(mark()), content_body(item())):
                self.check_damaged(page_of(kind, body))

    def test_contents_that_do_not_fit_with_right_sums(self):
        head = [0, 0, 0, 1, 0, 0, 0, 1]
        for body in (
            head + [48, 0, 0, 0, 0, 0],
            head + [47, 32, 0, 0, 0, 0],
            head + [255, 31, 0, 0, 0, 0],
            head + [47, 255, 0, 0, 0, 0],
            head + [255, 255, 1, 48, 0, 0, 0],
            head + [255, 255, 1, 255, 0, 0, 0],
            head + [255, 255, 49] + [0] * 49 + [0, 0, 0],
            head + [255, 255, 0, 1, 48, 0, 0],
            head + [255, 255, 0, 49] + [0] * 49 + [0, 0],
            head + [255, 255, 0, 0, 49] + [0] * 196 + [0],
            head + [255, 255, 0, 0, 0, 1, 48],
            head + [255, 255, 0, 0, 0, 1, 255],
            head + [255, 255, 0, 0, 0, 49] + [0] * 49,
            head + [255, 255, 255] + [255] * 490,
        ):
            self.check_damaged(page_of(1, body))

    def test_items_that_do_not_fit_with_right_sums(self):
        head = [0, 0, 0, 1, 0, 0, 0, 1]
        for body in (
            head + [2, 0, 0, 0, 3, 0],
            head + [255, 0, 0, 0, 3, 0],
            head + [1, 0, 0, 0, 3, 2, 0, 0],
            head + [1, 0, 0, 0, 3, 255, 0, 1, 9],
            head + [1, 0, 0, 0, 3, 1, 1, 193] + [1] * 449,
            head + [1, 0, 0, 0, 3, 1, 1, 235] + [1] * 491,
            head + [1, 0, 0, 0, 3, 1, 1, 236] + [1] * 491,
            head + [1, 0, 0, 0, 3, 1, 255, 255] + [1] * 491,
            head + [1, 0, 0, 0, 3, 0, 0, 1, 9],
        ):
            self.check_damaged(page_of(2, body))

    def test_nodes_that_do_not_fit_with_right_sums(self):
        for child in ([48, 0], [0, 32], [255, 0], [0, 255], [254, 255]):
            self.check_damaged(page_of(3, [0] + child + [255, 255] * 31))
            self.check_damaged(page_of(3, [0] + [255, 255] * 31 + child))
        self.check_damaged(page_of(3, [0] + [255, 255] * 33))

    def test_node_of_zeros_is_right(self):
        self.assertEqual(read_page(page_of(3, [])), ("right", node(0, ((0, 0),) * 32)))

    def test_page_is_not_changed(self):
        for content in (root(), item(), node(), mark()):
            page = write_page(content)
            read_page(page)
            self.assertEqual(page, write_page(content))


if __name__ == "__main__":
    unittest.main()

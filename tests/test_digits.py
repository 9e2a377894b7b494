"""Point 21: the digits of a reading."""

import unittest

from samples import ORDINARY, item, mark, node, root

from tidemark.errors import InvalidContent, InvalidDigits
from tidemark.pages.digits import page_digits, read_digits
from tidemark.pages.pages import write_page


class PageDigits(unittest.TestCase):
    def test_right(self):
        for content in ORDINARY:
            text = page_digits(("right", content))
            self.assertEqual(len(text), 1024)
            self.assertEqual([int(text[at:at + 2], 16) for at in range(0, 1024, 2)], write_page(content))
            self.assertEqual(text, text.lower())

    def test_known_page(self):
        self.assertEqual(page_digits(("right", ("mark", 1))), "04000509e800000001" + "0" * 1006)

    def test_blank(self):
        self.assertEqual(page_digits(("blank",)), "f" * 1024)

    def test_damaged(self):
        self.assertEqual(page_digits(("damaged",)), "0" * 1024)

    def test_content_that_does_not_fit(self):
        for content in (
            mark(4294967296),
            item(value=(0,) * 449),
            item(value=(256,)),
            node(children=(None,) * 31),
            node(level=256),
            root(tree=(48, 0)),
            root(bad=(0,) * 49),
        ):
            with self.assertRaises(InvalidContent):
                page_digits(("right", content))


class ReadDigits(unittest.TestCase):
    def test_back_and_forth(self):
        for reading in [("right", content) for content in ORDINARY] + [("blank",), ("damaged",)]:
            self.assertEqual(read_digits(page_digits(reading)), reading)

    def test_other_pages_read_damaged(self):
        text = page_digits(("right", mark()))
        self.assertEqual(read_digits("5" + text[1:]), ("damaged",))
        self.assertEqual(read_digits(text[:-1] + "1"), ("damaged",))
        self.assertEqual(read_digits("f" * 1023 + "e"), ("damaged",))
        self.assertEqual(read_digits("e" + "f" * 1023), ("damaged",))

    def test_lengths(self):
        for text in ("", "0", "f" * 512, "f" * 1023, "f" * 1025, "0" * 1022, "0" * 1026, "f" * 2048):
            with self.assertRaises(InvalidDigits):
                read_digits(text)

    def test_characters(self):
        for other in "FAgG /:@`x+-_.\n\u0661\uff10":
            for at in (0, 1, 511, 512, 1022, 1023):
                for filling in "0f":
                    with self.assertRaises(InvalidDigits):
                        read_digits(filling * at + other + filling * (1023 - at))

    def test_wrong_character_beside_a_wrong_length(self):
        with self.assertRaises(InvalidDigits):
            read_digits("f" * 1024 + "\n")


if __name__ == "__main__":
    unittest.main()

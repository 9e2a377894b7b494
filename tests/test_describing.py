"""Point 102: what a page holds, in words."""

import unittest

from samples import ORDINARY, item, mark, node, page_of, root

from tidemark.errors import InvalidDigits
from tidemark.inspector.describing import describe
from tidemark.pages.digits import page_digits

NAMES = {
    "root": ["number", "epoch", "index", "journal", "map", "erases", "bad"],
    "item": ["epoch", "index", "last", "key", "value"],
    "node": ["level", "children"],
    "mark": ["number"],
}


def described(content):
    return describe(page_digits(("right", content)))


def lines_of(content):
    """The values of the lines by their names; each line has a line feed behind it."""
    text = described(content)
    assert text.endswith("\n")
    rows = [line.split(" ") for line in text[:-1].split("\n")]
    assert all(len(row) == 2 for row in rows), rows
    return dict(rows)


class Describe(unittest.TestCase):
    def test_blank_and_damaged(self):
        self.assertEqual(describe("f" * 1024), "kind blank\n")
        self.assertEqual(describe("0" * 1024), "kind damaged\n")
        self.assertEqual(describe("f" * 1023 + "e"), "kind damaged\n")
        digits = page_digits(("right", mark()))
        self.assertEqual(describe("1" + digits[1:]), "kind damaged\n")

    def test_root(self):
        self.assertEqual(
            described(root()),
            "kind root\nnumber 7\nepoch 3\nindex 2:5\njournal 0,1\nmap 4,-,6\nerases 1,258,66051\nbad 9\n",
        )

    def test_root_with_missing_parts(self):
        self.assertEqual(
            described(root(0, 0, None, (), (), (), ())),
            "kind root\nnumber 0\nepoch 0\nindex -\njournal -\nmap -\nerases -\nbad -\n",
        )
        self.assertEqual(lines_of(root(places=(None,)))["map"], "-")
        self.assertEqual(lines_of(root(places=(None, None)))["map"], "-,-")

    def test_greatest_root(self):
        most = 4294967295
        found = lines_of(root(most, most, (47, 31), (47,) * 48, (47,) * 48, (most,) * 48, (47,) * 48))
        self.assertEqual((found["number"], found["epoch"], found["index"]), (str(most), str(most), "47:31"))
        self.assertEqual(found["erases"], ",".join([str(most)] * 48))
        for name in ("journal", "map", "bad"):
            self.assertEqual(found[name], ",".join(["47"] * 48))

    def test_item(self):
        self.assertEqual(described(item()), "kind item\nepoch 1\nindex 2\nlast yes\nkey 70\nvalue 0900ff\n")
        self.assertEqual(
            described(item(0, 0, False, 0, None)), "kind item\nepoch 0\nindex 0\nlast no\nkey 0\nvalue -\n"
        )
        self.assertEqual(lines_of(item(value=()))["value"], ".")
        self.assertEqual(lines_of(item(value=(0,)))["value"], "00")
        self.assertEqual(lines_of(item(1, 1, True, 1, (1, 10, 171)))["value"], "010aab")

    def test_greatest_item(self):
        most = 4294967295
        found = lines_of(item(most, most, True, most, (255,) * 448))
        self.assertEqual(found["value"], "ff" * 448)
        self.assertEqual([found[name] for name in ("epoch", "index", "key")], [str(most)] * 3)

    def test_node(self):
        self.assertEqual(
            described(node()), "kind node\nlevel 0\nchildren 1:2," + "-," * 30 + "47:31\n"
        )
        self.assertEqual(lines_of(node(255, ((47, 31),) * 32))["children"], ",".join(["47:31"] * 32))
        self.assertEqual(lines_of(node(3, (None,) * 32))["children"], ",".join("-" * 32))
        self.assertEqual(lines_of(node(0, ((0, 0),) + (None,) * 31))["children"], "0:0" + ",-" * 31)

    def test_mark(self):
        self.assertEqual(described(mark()), "kind mark\nnumber 5\n")
        self.assertEqual(described(mark(0)), "kind mark\nnumber 0\n")
        self.assertEqual(described(mark(4294967295)), "kind mark\nnumber 4294967295\n")

    def test_lines_and_their_order(self):
        for content in ORDINARY:
            text = described(content)
            lines = text.split("\n")
            self.assertEqual(lines.pop(), "")
            self.assertEqual([line.split(" ")[0] for line in lines], ["kind"] + NAMES[content[0]])
            self.assertEqual(lines[0], "kind " + content[0])

    def test_pages_that_read_damaged(self):
        """A page with right sums whose octets are not those of its content."""
        digits = "".join(f"{octet:02x}" for octet in page_of(4, [0, 0, 0, 1, 1]))
        self.assertEqual(describe(digits), "kind damaged\n")

    def test_strings_that_are_no_digits(self):
        digits = page_digits(("right", mark()))
        for text in (
            "",
            "f",
            "f" * 1023,
            "f" * 1025,
            "0" * 512,
            "F" * 1024,
            digits.upper(),
            "g" + digits[1:],
            digits[:-1] + " ",
            digits[:-1] + "\n",
            digits + "\n",
            "0x" + digits[2:],
            "-" + digits[1:],
        ):
            self.assertRaises(InvalidDigits, describe, text)


if __name__ == "__main__":
    unittest.main()

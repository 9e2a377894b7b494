"""The heading tidemark/pages/numbers.py of the interface, and the order of octets in points 17 and 18."""

import unittest

from tidemark.pages.numbers import number_row, row_number


class NumberRow(unittest.TestCase):
    def test_bounds_of_each_width(self):
        for width in (1, 2, 3, 4):
            greatest = 256 ** width - 1
            self.assertEqual(number_row(0, width), [0] * width)
            self.assertEqual(number_row(greatest, width), [255] * width)
            self.assertEqual(number_row(1, width), [0] * (width - 1) + [1])
            self.assertEqual(number_row(greatest - 1, width), [255] * (width - 1) + [254])
            self.assertEqual(number_row(256 ** (width - 1), width), [1] + [0] * (width - 1))

    def test_most_significant_octet_first(self):
        self.assertEqual(number_row(515, 2), [2, 3])
        self.assertEqual(number_row(16909060, 4), [1, 2, 3, 4])
        self.assertEqual(number_row(66051, 3), [1, 2, 3])

    def test_example_of_the_document(self):
        self.assertEqual(number_row(515, 4), [0, 0, 2, 3])


class RowNumber(unittest.TestCase):
    def test_bounds_of_each_width(self):
        for width in (1, 2, 3, 4):
            self.assertEqual(row_number([0] * width), 0)
            self.assertEqual(row_number([255] * width), 256 ** width - 1)
            self.assertEqual(row_number([1] + [0] * (width - 1)), 256 ** (width - 1))
            self.assertEqual(row_number([0] * (width - 1) + [7]), 7)

    def test_empty_list(self):
        self.assertEqual(row_number([]), 0)

    def test_most_significant_octet_first(self):
        self.assertEqual(row_number([1, 2, 3, 4]), 16909060)

    def test_back_and_forth(self):
        for width in (1, 2, 3, 4):
            for number in (0, 1, 127, 128, 255, 256, 257, 65535, 65536, 16777215, 16777216, 4294967295):
                if number < 256 ** width:
                    self.assertEqual(row_number(number_row(number, width)), number)

    def test_list_is_not_changed(self):
        row = [1, 2, 3]
        row_number(row)
        self.assertEqual(row, [1, 2, 3])


if __name__ == "__main__":
    unittest.main()

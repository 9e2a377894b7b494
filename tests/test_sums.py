"""Point 19: the two sums of a page."""

import unittest

from samples import weighed_sums

from tidemark.pages.sums import page_sums


def zeros_but(octets):
    page = [0] * 512
    for at, octet in octets.items():
        page[at] = octet
    return page


class PageSums(unittest.TestCase):
    def test_zeros(self):
        self.assertEqual(page_sums([0] * 512), (0, 0))

    def test_octets_255(self):
        self.assertEqual(page_sums([255] * 512), (64019, 10867))

    def test_octets_of_the_sums_do_not_count(self):
        for at in (1, 2, 3, 4):
            self.assertEqual(page_sums(zeros_but({at: 255})), (0, 0))
        self.assertEqual(page_sums(zeros_but({0: 1, 1: 9, 2: 9, 3: 9, 4: 9, 511: 1})), (2, 509))

    def test_weights(self):
        self.assertEqual(page_sums(zeros_but({0: 1})), (1, 508))
        self.assertEqual(page_sums(zeros_but({5: 1})), (1, 507))
        self.assertEqual(page_sums(zeros_but({6: 1})), (1, 506))
        self.assertEqual(page_sums(zeros_but({510: 1})), (1, 2))
        self.assertEqual(page_sums(zeros_but({511: 1})), (1, 1))
        for at in range(5, 512):
            self.assertEqual(page_sums(zeros_but({at: 3})), (3, 3 * (512 - at)))

    def test_modulus(self):
        # 256 octets 255 and one 241 are 65521 in all.
        whole = zeros_but({at: 255 for at in range(255, 511)})
        whole[511] = 241
        self.assertEqual(page_sums(whole)[0], 0)
        whole[511] = 240
        self.assertEqual(page_sums(whole)[0], 65520)
        whole[511] = 242
        self.assertEqual(page_sums(whole)[0], 1)

    def test_as_the_document_words_it(self):
        for step in (1, 7, 31, 100, 253):
            page = [(at * step + step) % 256 for at in range(512)]
            self.assertEqual(page_sums(page), weighed_sums(page))

    def test_page_is_not_changed(self):
        page = list(range(256)) * 2
        page_sums(page)
        self.assertEqual(page, list(range(256)) * 2)


if __name__ == "__main__":
    unittest.main()

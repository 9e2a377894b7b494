"""Pages of 512 octets: how contents are written, and what pages read as."""

from tidemark.pages.bodies import read_body
from tidemark.pages.contents import content_body, fits_page
from tidemark.pages.numbers import number_row
from tidemark.pages.sums import page_sums

PAGE_OCTETS = 512
HEAD_OCTETS = 5
BLANK_OCTET = 255

KIND_OCTETS = {"root": 1, "item": 2, "node": 3, "mark": 4}


def write_page(content):
    """Return the octets of the page of a content."""
    body = content_body(content)
    page = [KIND_OCTETS[content[0]], 0, 0, 0, 0] + body
    page.extend([0] * (PAGE_OCTETS - len(page)))
    first, second = page_sums(page)
    page[1:HEAD_OCTETS] = number_row(first, 2) + number_row(second, 2)
    return page


def read_page(page):
    """Return what a page reads as."""
    if page == [BLANK_OCTET] * PAGE_OCTETS:
        return ("blank",)
    content = _told_content(page)
    # A content that reads from octets that are not its page, as with other sums, is no content.
    if content is None or not fits_page(content) or write_page(content) != page:
        return ("damaged",)
    return ("right", content)


def _told_content(page):
    for kind, octet in KIND_OCTETS.items():
        if page[0] == octet:
            return read_body(kind, page[HEAD_OCTETS:])
    return None

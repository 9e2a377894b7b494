"""Readings as hexadecimal digits, and back."""

from tidemark.errors import InvalidDigits
from tidemark.pages.pages import read_page, write_page

HEX_DIGITS = "0123456789abcdef"
PAGE_DIGITS = 1024


def page_digits(reading):
    """Return the digits of a reading."""
    if reading[0] == "blank":
        return "f" * PAGE_DIGITS
    if reading[0] == "damaged":
        return "0" * PAGE_DIGITS
    return "".join([f"{octet:02x}" for octet in write_page(reading[1])])


def read_digits(text):
    """Return what the page with these digits reads as."""
    if len(text) != PAGE_DIGITS or any([digit not in HEX_DIGITS for digit in text]):
        raise InvalidDigits("a page has 1024 digits, each of them 0 to 9 or a to f")
    return read_page([int(text[at:at + 2], 16) for at in range(0, PAGE_DIGITS, 2)])

"""The two sums that tell whether a page is written whole."""

MODULUS = 65521


def page_sums(page):
    """Return the first and the second sum of a page."""
    octets = [page[0]] + page[5:]
    first = 0
    second = 0
    # Adding up the first sums counts each octet as often as its weight tells.
    for octet in octets:
        first = first + octet
        second = second + first
    return first % MODULUS, second % MODULUS

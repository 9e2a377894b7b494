"""The contents of pages: which of them fit a page, and their bodies."""

from tidemark.errors import InvalidContent
from tidemark.pages.numbers import number_row

NUMBER_BOUND = 4294967296
LEVEL_BOUND = 256
BLOCK_BOUND = 48
PAGE_BOUND = 32
OCTET_BOUND = 256
MOST_ENTRIES = 48
MOST_OCTETS = 448
NODE_CHILDREN = 32
NO_BLOCK = 255
NO_ADDRESS = (255, 255)


def fits_page(content):
    """Return True if the content fits a page."""
    kind = content[0]
    if kind == "root":
        return _fits_root(content)
    if kind == "item":
        return _fits_item(content)
    if kind == "node":
        return _fits_node(content)
    return _are_below(content[1:], NUMBER_BOUND)


def _fits_root(content):
    _, number, epoch, tree, journal, places, erases, bad = content
    if any([len(entries) > MOST_ENTRIES for entries in (journal, places, erases, bad)]):
        return False
    named = [place for place in places if place is not None]
    return (
        _are_below([number, epoch, *erases], NUMBER_BOUND)
        and _fits_address(tree)
        and _are_below([*journal, *named, *bad], BLOCK_BOUND)
    )


def _fits_item(content):
    _, epoch, index, _, key, value = content
    return _are_below([epoch, index, key], NUMBER_BOUND) and _fits_value(value)


def _fits_node(content):
    _, level, children = content
    return (
        _are_below([level], LEVEL_BOUND)
        and len(children) == NODE_CHILDREN
        and all([_fits_address(child) for child in children])
    )


def _fits_value(value):
    return value is None or (len(value) <= MOST_OCTETS and _are_below(value, OCTET_BOUND))


def _fits_address(address):
    if address is None:
        return True
    block, page = address
    return _are_below([block], BLOCK_BOUND) and _are_below([page], PAGE_BOUND)


def _are_below(numbers, bound):
    return all([0 <= number < bound for number in numbers])


def content_body(content):
    """Return the octets of the body of a content, without the zeros behind it."""
    if not fits_page(content):
        raise InvalidContent("the content does not fit a page")
    kind = content[0]
    if kind == "root":
        return _root_body(content)
    if kind == "item":
        return _item_body(content)
    if kind == "node":
        return _node_body(content)
    return number_row(content[1], 4)


def _root_body(content):
    _, number, epoch, tree, journal, places, erases, bad = content
    named = [NO_BLOCK if place is None else place for place in places]
    body = number_row(number, 4) + number_row(epoch, 4) + _address_row(tree)
    body = body + [len(journal), *journal, len(named), *named, len(erases)]
    for count in erases:
        body.extend(number_row(count, 4))
    return body + [len(bad), *bad]


def _item_body(content):
    _, epoch, index, last, key, value = content
    body = number_row(epoch, 4) + number_row(index, 4)
    body.append(1 if last else 0)
    body.extend(number_row(key, 4))
    if value is None:
        return body + [0]
    return body + [1] + number_row(len(value), 2) + list(value)


def _node_body(content):
    _, level, children = content
    body = [level]
    for child in children:
        body.extend(_address_row(child))
    return body


def _address_row(address):
    return list(NO_ADDRESS if address is None else address)

"""Reading a content back from the octets of its body."""

from tidemark.pages.contents import NODE_CHILDREN, NO_ADDRESS, NO_BLOCK
from tidemark.pages.numbers import row_number


class BodyReader:
    """Takes the parts of a body in their order.

    Behind the end of the octets there is nothing to take: a row is shorter then, and a number smaller.
    """

    def __init__(self, octets):
        self._octets = list(octets)
        self._position = 0

    def take_row(self, many):
        """Take this many octets."""
        start = self._position
        self._position = start + many
        return self._octets[start:start + many]

    def take_number(self, width):
        """Take a number of this many octets."""
        return row_number(self.take_row(width))

    def take_numbers(self, width):
        """Take the number of the entries, and then the entries, of this many octets each."""
        many = self.take_number(1)
        numbers = []
        for _ in range(many):
            numbers.append(self.take_number(width))
        return tuple(numbers)

    def take_address(self):
        """Take an address or None."""
        block = self.take_number(1)
        page = self.take_number(1)
        return None if (block, page) == NO_ADDRESS else (block, page)

    def take_value(self):
        """Take a value or None."""
        if self.take_number(1) == 0:
            return None
        many = self.take_number(2)
        return tuple(self.take_row(many))


def read_body(kind, octets):
    """Return the content of this kind that the octets begin with.

    What it returns for other octets is a content, too, but it does not fit, or is written otherwise.
    """
    reader = BodyReader(octets)
    if kind == "root":
        return _read_root(reader)
    if kind == "item":
        return _read_item(reader)
    if kind == "node":
        return _read_node(reader)
    return ("mark", reader.take_number(4))


def _read_root(reader):
    number = reader.take_number(4)
    epoch = reader.take_number(4)
    tree = reader.take_address()
    journal = reader.take_numbers(1)
    places = tuple([None if place == NO_BLOCK else place for place in reader.take_numbers(1)])
    erases = reader.take_numbers(4)
    bad = reader.take_numbers(1)
    return ("root", number, epoch, tree, journal, places, erases, bad)


def _read_item(reader):
    epoch = reader.take_number(4)
    index = reader.take_number(4)
    last = reader.take_number(1) == 1
    key = reader.take_number(4)
    return ("item", epoch, index, last, key, reader.take_value())


def _read_node(reader):
    level = reader.take_number(1)
    children = []
    for _ in range(NODE_CHILDREN):
        children.append(reader.take_address())
    return ("node", level, tuple(children))

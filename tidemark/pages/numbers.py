"""Numbers of several octets, the most significant octet first."""


def number_row(number, width):
    """Return the list of the octets of a number, as many as width tells."""
    row = []
    rest = number
    for _ in range(width):
        row.append(rest & 255)
        rest = rest >> 8
    return list(reversed(row))


def row_number(row):
    """Return the number whose octets these are."""
    number = 0
    for octet in row:
        number = number * 256 + octet
    return number

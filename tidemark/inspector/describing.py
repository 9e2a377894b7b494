"""What a page holds, in words."""

from tidemark.pages.digits import read_digits

NAMES = {
    "root": ("number", "epoch", "index", "journal", "map", "erases", "bad"),
    "item": ("epoch", "index", "last", "key", "value"),
    "node": ("level", "children"),
    "mark": ("number",),
}


def describe(digits):
    """Return the lines that tell what the page with these digits holds."""
    lines = _lines_of(read_digits(digits))
    return "".join([f"{name} {shown}\n" for name, shown in lines])


def _lines_of(reading):
    """Return the names and values of the lines of a reading."""
    if reading[0] != "right":
        return [("kind", reading[0])]
    kind = reading[1][0]
    lines = [("kind", kind)]
    for name, part in zip(NAMES[kind], reading[1][1:]):
        lines.append((name, _shown_as(name, part)))
    return lines


def _shown_as(name, part):
    """Return how a part of a content with this name is shown."""
    if name in ("journal", "map", "erases", "bad", "children"):
        return ",".join([_shown(entry) for entry in part]) if part else "-"
    if name == "value" and part is not None:
        return "".join([f"{octet:02x}" for octet in part]) if part else "."
    return _shown(part)


def _shown(part):
    """Return how None, True, False, an address or a number is shown."""
    if part is None:
        return "-"
    if isinstance(part, bool):
        return "yes" if part else "no"
    if isinstance(part, tuple):
        return f"{part[0]}:{part[1]}"
    return str(part)

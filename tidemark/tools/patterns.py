"""Patterns of names, and the search for them."""

from tidemark.errors import InvalidPattern
from tidemark.files.arguments import check_argument
from tidemark.files.names import NAME_CHARACTERS
from tidemark.files.walking import follow
from tidemark.tools.listing import path_behind, ways_from

LONGEST_PATTERN = 64
ANY_MANY = "*"
ANY_ONE = "?"


def is_pattern(text):
    """Return True if the string is a pattern."""
    allowed = NAME_CHARACTERS + ANY_MANY + ANY_ONE
    return 1 <= len(text) <= LONGEST_PATTERN and all([character in allowed for character in text])


def matches(pattern, name):
    """Return True if the pattern matches the name."""
    # For each prefix of the name, whether the signs so far match it.
    matched = [True] + [False] * len(name)
    for sign in pattern:
        matched = _matched_with(matched, sign, name)
    return matched[-1]


def search(tree, path, pattern):
    """Return the paths of all nodes below the node at a path whose last name the pattern matches."""
    check_argument("path", path)
    if not is_pattern(pattern):
        raise InvalidPattern(f"{pattern} is not a pattern")
    top = follow(tree, path)
    return [path_behind(path, way) for way, _ in ways_from(tree, top)[1:] if matches(pattern, way[-1])]


def _matched_with(matched, sign, name):
    """Return which prefixes of the name are matched with one more sign of the pattern."""
    if sign == ANY_MANY:
        return [any(matched[:end + 1]) for end in range(len(matched))]
    return [False] + [matched[at] and sign in (ANY_ONE, character) for at, character in enumerate(name)]

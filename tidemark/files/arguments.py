"""The checks of single arguments of operations."""

from tidemark.errors import InvalidLength, InvalidOffset, InvalidPath, InvalidTarget, NotOpen, TooManyOctets
from tidemark.files.names import is_path, is_target
from tidemark.files.tree import MOST_HANDLES

LONGEST_FILE = 28672
MOST_OCTETS = 5376


def _check_path(text):
    """Raise InvalidPath unless the string is an absolute path."""
    if not is_path(text):
        raise InvalidPath(f"{text} is not an absolute path")


def _check_target(text):
    """Raise InvalidTarget unless the string is a target."""
    if not is_target(text):
        raise InvalidTarget(f"{text} is not a target")


def _check_offset(offset):
    """Raise InvalidOffset unless the offset may be one in a file."""
    if not 0 <= offset <= LONGEST_FILE:
        raise InvalidOffset(f"an offset is from 0 to {LONGEST_FILE}, not {offset}")


def _check_length(length):
    """Raise InvalidLength unless the length may be one of a file."""
    if not 0 <= length <= LONGEST_FILE:
        raise InvalidLength(f"a length is from 0 to {LONGEST_FILE}, not {length}")


def _check_octets(octets):
    """Raise TooManyOctets if there are too many for one operation."""
    if len(octets) > MOST_OCTETS:
        raise TooManyOctets(f"an operation takes {MOST_OCTETS} octets, not {len(octets)}")


def _check_handle(handle):
    """Raise NotOpen unless the handle is one."""
    if not 0 <= handle < MOST_HANDLES:
        raise NotOpen(f"there is no handle {handle}")


CHECKS = {
    "path": _check_path,
    "target": _check_target,
    "offset": _check_offset,
    "length": _check_length,
    "octets": _check_octets,
    "handle": _check_handle,
}


def check_argument(kind, argument):
    """Raise the error of an argument of this kind if it is wrong."""
    check = CHECKS[kind]
    check(argument)

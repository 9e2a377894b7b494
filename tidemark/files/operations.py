"""The operations on a tree of files."""

from tidemark.errors import IsDirectory, NotDirectory, NotEmpty, NotFound, NotLink, NotOpen, TooManyOpen, WithinItself
from tidemark.files.arguments import check_argument
from tidemark.files.entries import (
    check_new_entry,
    check_room,
    lose_name,
    make_node,
    remove_entry,
    remove_unused,
    resized,
    set_entry,
    written,
)
from tidemark.files.names import names_of
from tidemark.files.node import Node
from tidemark.files.tree import ROOT
from tidemark.files.walking import entry_of, follow, lies_within, place_of

OPERATIONS = (
    "mkdir",
    "rmdir",
    "write",
    "read",
    "truncate",
    "rename",
    "link",
    "unlink",
    "symlink",
    "readlink",
    "readdir",
    "stat",
    "lstat",
    "open_file",
    "close_file",
    "read_at",
    "write_at",
    "resize",
    "stat_at",
)

ARGUMENTS = {
    "mkdir": ("path",),
    "rmdir": ("path",),
    "write": ("path", "offset", "octets"),
    "read": ("path", "offset", "length"),
    "truncate": ("path", "length"),
    "rename": ("path", "path"),
    "link": ("path", "path"),
    "unlink": ("path",),
    "symlink": ("target", "path"),
    "readlink": ("path",),
    "readdir": ("path",),
    "stat": ("path",),
    "lstat": ("path",),
    "open_file": ("path",),
    "close_file": ("handle",),
    "read_at": ("handle", "offset", "length"),
    "write_at": ("handle", "offset", "octets"),
    "resize": ("handle", "length"),
    "stat_at": ("handle",),
}


def _mkdir(tree, path):
    make_node(tree, path, Node("directory", ()))


def _rmdir(tree, path):
    directory, name, number = entry_of(tree, path)
    _check_empty_directory(tree, number)
    remove_entry(tree, directory, name)
    del tree.nodes[number]


def _write(tree, path, offset, octets):
    number = _followed(tree, path)
    if number is not None:
        _write_node(tree, number, offset, octets)
        return
    directory, name = place_of(tree, path)
    if tree.entry(directory, name) is not None:
        raise NotFound(f"{path} is a link that leads nowhere")
    make_node(tree, path, Node("file", written((), offset, octets)))


def _read(tree, path, offset, length):
    return _octets_of(tree, _file_at(tree, path), offset, length)


def _truncate(tree, path, length):
    _resize_node(tree, _file_at(tree, path), length)


def _rename(tree, source, target):
    directory, name, number = entry_of(tree, source)
    new_directory, new_name = place_of(tree, target)
    if _is_directory(tree, number) and lies_within(tree, new_directory, number):
        raise WithinItself(f"{target} lies below {source}")
    replaced = tree.entry(new_directory, new_name)
    if replaced == number:
        return
    if replaced is not None:
        _give_way(tree, replaced, number)
    elif new_directory != directory:
        check_room(tree, new_directory)
    remove_entry(tree, directory, name)
    set_entry(tree, new_directory, new_name, number)


def _link(tree, source, target):
    _, _, number = entry_of(tree, source)
    if _is_directory(tree, number):
        raise IsDirectory(f"{source} is a directory")
    directory, name = place_of(tree, target)
    check_new_entry(tree, directory, name)
    set_entry(tree, directory, name, number)
    tree.nodes[number] = tree.nodes[number].with_links(tree.nodes[number].links + 1)


def _unlink(tree, path):
    directory, name, number = entry_of(tree, path)
    if _is_directory(tree, number):
        raise IsDirectory(f"{path} is a directory")
    remove_entry(tree, directory, name)
    lose_name(tree, number)


def _symlink(tree, target, path):
    make_node(tree, path, Node("link", target))


def _readlink(tree, path):
    _, _, number = entry_of(tree, path)
    if tree.nodes[number].kind != "link":
        raise NotLink(f"{path} is not a link")
    return tree.nodes[number].body


def _readdir(tree, path):
    number = follow(tree, path)
    if not _is_directory(tree, number):
        raise NotDirectory(f"{path} is not a directory")
    return [name for name, _ in tree.nodes[number].body]


def _stat(tree, path):
    return status_of(tree, follow(tree, path))


def _lstat(tree, path):
    if not names_of(path):
        return status_of(tree, ROOT)
    _, _, number = entry_of(tree, path)
    return status_of(tree, number)


def _open_file(tree, path):
    number = _file_at(tree, path)
    unused = [handle for handle, found in enumerate(tree.handles) if found is None]
    if not unused:
        raise TooManyOpen("all handles are in use")
    tree.handles[unused[0]] = number
    return unused[0]


def _close_file(tree, handle):
    number = _file_of(tree, handle)
    tree.handles[handle] = None
    remove_unused(tree, number)


def _read_at(tree, handle, offset, length):
    return _octets_of(tree, _file_of(tree, handle), offset, length)


def _write_at(tree, handle, offset, octets):
    _write_node(tree, _file_of(tree, handle), offset, octets)


def _resize(tree, handle, length):
    _resize_node(tree, _file_of(tree, handle), length)


def _stat_at(tree, handle):
    return status_of(tree, _file_of(tree, handle))


def status_of(tree, number):
    """Return the kind, the number, the count of names and the length of a node."""
    node = tree.nodes[number]
    return node.kind, number, node.links, node.measure()


def _is_directory(tree, number):
    return tree.nodes[number].kind == "directory"


def _check_empty_directory(tree, number):
    if not _is_directory(tree, number):
        raise NotDirectory("the node is not a directory")
    if tree.nodes[number].measure() > 0:
        raise NotEmpty("the directory has entries")


def _give_way(tree, replaced, number):
    """Let a node lose the entry that another node is to have."""
    if _is_directory(tree, replaced):
        if not _is_directory(tree, number):
            raise IsDirectory("a directory does not give way to another node")
        _check_empty_directory(tree, replaced)
        del tree.nodes[replaced]
        return
    if _is_directory(tree, number):
        raise NotDirectory("a directory takes the place of a directory only")
    lose_name(tree, replaced)


def _followed(tree, path):
    """Return the number of the node that a path leads to, or None if it is not found."""
    try:
        return follow(tree, path)
    except NotFound:
        return None


def _file_at(tree, path):
    number = follow(tree, path)
    if tree.nodes[number].kind != "file":
        raise IsDirectory(f"{path} is not a file")
    return number


def _file_of(tree, handle):
    if tree.handles[handle] is None:
        raise NotOpen(f"the handle {handle} is not in use")
    return tree.handles[handle]


def _octets_of(tree, number, offset, length):
    return list(tree.nodes[number].body[offset:offset + length])


def _write_node(tree, number, offset, octets):
    node = tree.nodes[number]
    if node.kind != "file":
        raise IsDirectory("the node is not a file")
    tree.nodes[number] = node.with_body(written(node.body, offset, octets))


def _resize_node(tree, number, length):
    node = tree.nodes[number]
    tree.nodes[number] = node.with_body(resized(node.body, length))


ACTIONS = {
    "mkdir": _mkdir,
    "rmdir": _rmdir,
    "write": _write,
    "read": _read,
    "truncate": _truncate,
    "rename": _rename,
    "link": _link,
    "unlink": _unlink,
    "symlink": _symlink,
    "readlink": _readlink,
    "readdir": _readdir,
    "stat": _stat,
    "lstat": _lstat,
    "open_file": _open_file,
    "close_file": _close_file,
    "read_at": _read_at,
    "write_at": _write_at,
    "resize": _resize,
    "stat_at": _stat_at,
}


def check_operation(operation):
    """Raise the error of the first wrong argument of an operation."""
    kinds = ARGUMENTS[operation[0]]
    for kind, argument in zip(kinds, operation[1:]):
        check_argument(kind, argument)


def make_operation(tree, operation):
    """Make an operation on a tree and return its result."""
    arguments = operation[1:]
    action = ACTIONS[operation[0]]
    return action(tree, *arguments)

"""Trees and operations for tests."""

from stores import Numbers

from tidemark.errors import TidemarkError, word_of
from tidemark.files.operations import check_operation, make_operation
from tidemark.files.tree import FileTree


def told(tree):
    """Everything that a tree holds, in a form of its own."""
    nodes = {number: (node.kind, node.body, node.links) for number, node in tree.nodes.items()}
    return nodes, list(tree.handles)


def made(*operations, tree=None):
    """A tree, a new one unless it is told, on which these operations were made."""
    found = FileTree() if tree is None else tree
    for operation in operations:
        check_operation(operation)
        make_operation(found, operation)
    return found


def word_of_call(call, *arguments):
    """The word of the error that a call raises, or None."""
    try:
        call(*arguments)
    except TidemarkError as error:
        return word_of(error)
    return None


def refused(tree, *operation):
    """The word of the error of an operation, or None; the tree must not change if there is one."""
    before = told(tree)
    word = word_of_call(check_operation, operation) or word_of_call(make_operation, tree, operation)
    assert word is None or told(tree) == before
    return word


def result(tree, *operation):
    check_operation(operation)
    return make_operation(tree, operation)


def full_directory(path="/d", many=64):
    """Operations that make a directory with this many entries."""
    return [("mkdir", path), ("write", path + "/e0", 0, [])] + [
        ("link", path + "/e0", f"{path}/e{at}") for at in range(1, many)
    ]


def chain_of_links(many):
    """Operations that make links l1, l2 .. of which each leads to the one before it, and l1 to /f."""
    return [("write", "/f", 0, [7])] + [
        ("symlink", "f" if at == 1 else f"l{at - 1}", f"/l{at}") for at in range(1, many + 1)
    ]


class DrawnOperations:
    """Operations on few names, so that they often meet."""

    def __init__(self, seed):
        self.numbers = Numbers(seed)
        self.names = ["a", "b", "ab", "x.y"]

    def path(self):
        draw = self.numbers.below(40)
        if draw == 0:
            return "/"
        if draw == 1:
            return self.numbers.one_of(["", "a", "/a/", "//", "/a b", "/.", "/" + "n" * 33])
        return "".join("/" + self.numbers.one_of(self.names) for _ in range(self.numbers.one_of([1, 1, 1, 2, 2, 3])))

    def target(self):
        path = self.path()
        return path[1:] if self.numbers.below(2) and len(path) > 1 else path

    def offset(self):
        draw = self.numbers.below(30)
        if draw == 0:
            return self.numbers.one_of([-1, 28673])
        return self.numbers.one_of([0, 0, 1, 3, 10, 447, 448, 900, 28671, 28672]) if draw < 20 else draw

    def octets(self):
        many = self.numbers.one_of([0, 1, 2, 5, 30, 448, 500])
        if self.numbers.below(40) == 0:
            many = self.numbers.one_of([5376, 5377])
        return [self.numbers.below(256) if self.numbers.below(3) else 0 for _ in range(many)]

    def handle(self):
        return self.numbers.below(3) if self.numbers.below(20) else self.numbers.one_of([-1, 15, 16])

    def operation(self):
        word = self.numbers.one_of(
            "mkdir mkdir rmdir write write write read truncate rename rename rename link link unlink symlink "
            "readlink readdir stat lstat open_file open_file open_file close_file read_at write_at resize stat_at".split()
        )
        rest = {
            "write": (self.path, self.offset, self.octets),
            "read": (self.path, self.offset, self.offset),
            "truncate": (self.path, self.offset),
            "rename": (self.path, self.path),
            "link": (self.path, self.path),
            "symlink": (self.target, self.path),
            "close_file": (self.handle,),
            "read_at": (self.handle, self.offset, self.offset),
            "write_at": (self.handle, self.offset, self.octets),
            "resize": (self.handle, self.offset),
            "stat_at": (self.handle,),
        }.get(word, (self.path,))
        return (word, *[draw() for draw in rest])

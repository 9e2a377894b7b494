"""The volume: a tree of files that a store keeps, or a read-only one."""

from tidemark.errors import (
    FileError,
    InvalidBatch,
    InvalidOperation,
    NoSpace,
    OperationRefused,
    PowerCut,
    ReadOnly,
    TidemarkError,
    TooMuch,
    VolumeDown,
    WornOut,
    word_of,
)
from tidemark.files.operations import OPERATIONS, check_operation, make_operation
from tidemark.files.values import changes_between, tree_values
from tidemark.index.counting import pages_counted
from tidemark.space.limits import page_limit

MOST_IN_BATCH = 16
MOST_PUT = 20

READING = ("read", "readlink", "readdir", "stat", "lstat", "open_file", "close_file", "read_at", "stat_at")


class Volume:
    """A tree of files; its store is None if it is read-only."""

    def __init__(self, store, tree, shape):
        self._store = store
        self._tree = tree
        self._shape = shape
        self._failed = False
        self._accepted = []
        self._synced = 0

    @property
    def is_up(self):
        """True if the volume is mounted and has not failed since."""
        if self._store is None or self._failed:
            return False
        return self._store.generation == self._store.chip.generation

    @property
    def is_read_only(self):
        """True if the volume shows what a mount would show, and never changes."""
        return self._store is None

    def mkdir(self, path):
        """Make a directory."""
        return self.perform(("mkdir", path))

    def rmdir(self, path):
        """Remove a directory without entries."""
        return self.perform(("rmdir", path))

    def write(self, path, offset, octets):
        """Write octets into a file, which is made if there is none."""
        return self.perform(("write", path, offset, octets))

    def read(self, path, offset, length):
        """Return the list of the octets in a part of a file."""
        return self.perform(("read", path, offset, length))

    def truncate(self, path, length):
        """Give a file another length."""
        return self.perform(("truncate", path, length))

    def rename(self, source, target):
        """Give an entry another place."""
        return self.perform(("rename", source, target))

    def link(self, source, target):
        """Give a file or a link one more name."""
        return self.perform(("link", source, target))

    def unlink(self, path):
        """Remove a name of a file or a link."""
        return self.perform(("unlink", path))

    def symlink(self, target, path):
        """Make a link."""
        return self.perform(("symlink", target, path))

    def readlink(self, path):
        """Return the target of a link."""
        return self.perform(("readlink", path))

    def readdir(self, path):
        """Return the list of the names in a directory."""
        return self.perform(("readdir", path))

    def stat(self, path):
        """Return the status of the node that a path leads to."""
        return self.perform(("stat", path))

    def lstat(self, path):
        """Return the status of the node of an entry."""
        return self.perform(("lstat", path))

    def open_file(self, path):
        """Open a file and return its handle."""
        return self.perform(("open_file", path))

    def close_file(self, handle):
        """Give up a handle."""
        return self.perform(("close_file", handle))

    def read_at(self, handle, offset, length):
        """Return the list of the octets in a part of an open file."""
        return self.perform(("read_at", handle, offset, length))

    def write_at(self, handle, offset, octets):
        """Write octets into an open file."""
        return self.perform(("write_at", handle, offset, octets))

    def resize(self, handle, length):
        """Give an open file another length."""
        return self.perform(("resize", handle, length))

    def stat_at(self, handle):
        """Return the status of an open file."""
        return self.perform(("stat_at", handle))

    def perform(self, operation):
        """Make the operation that a tuple names, and return its result."""
        self._check_not_down()
        check_operation(operation)
        return self._make(operation)

    def carry_out(self, operation):
        """Make an operation whose arguments are right, with paths of any length."""
        self._check_not_down()
        return self._make(operation)

    def batch(self, operations):
        """Make several operations as one change, and return the list of their results."""
        self._check_not_down()
        _check_batch(operations)
        self.check_writable()
        tree = self._tree.copied()
        results = [_make_in_batch(tree, at, operation) for at, operation in enumerate(operations)]
        changes = changes_between(self._tree, tree)
        if len([key for key, value in changes if value is not None]) > MOST_PUT:
            raise TooMuch(f"a batch puts at most {MOST_PUT} values")
        self._accept(tree, changes)
        return results

    def sync(self):
        """Let everything that was accepted outlast a cut of the power."""
        self._check_not_down()
        self.check_writable()
        try:
            self._store.sync()
        except (PowerCut, WornOut):
            self._failed = True
            raise
        self._synced = len(self._accepted)

    def check_writable(self):
        """Raise ReadOnly if the volume is read-only."""
        if self._store is None:
            raise ReadOnly("the volume is read-only")

    def room(self):
        """Return for how many pages the keys of the volume are counted, and the limit."""
        self._check_not_down()
        blocks, pages = self._shape
        return pages_counted(list(tree_values(self._tree))), page_limit(blocks, pages)

    def wear(self):
        """Return the list of the recorded erases of all blocks and the list of the bad blocks."""
        self._check_not_down()
        self.check_writable()
        return list(self._store.recorded), list(self._store.bad)

    def tree_now(self):
        """Return a copy of the tree."""
        self._check_not_down()
        return self._tree.copied()

    def accepted_changes(self):
        """Return the lists of changes that were accepted since the mount."""
        return [list(changes) for changes in self._accepted]

    def synced_count(self):
        """Return how many changes had been accepted before the last sync that returned."""
        return self._synced

    def _check_not_down(self):
        if not self.is_up and not self.is_read_only:
            raise VolumeDown("the volume is down")

    def _make(self, operation):
        if operation[0] not in READING:
            self.check_writable()
        tree = self._tree.copied()
        result = make_operation(tree, operation)
        self._accept(tree, changes_between(self._tree, tree))
        return result

    def _accept(self, tree, changes):
        """Let a tree that differs by these changes take the place of the tree."""
        if changes:
            self._check_space(tree)
            self._change_store(changes)
        self._tree = tree

    def _check_space(self, tree):
        if self._store.is_worn():
            raise WornOut("more blocks are bad than may be")
        blocks, pages = self._shape
        if pages_counted(list(tree_values(tree))) > page_limit(blocks, pages):
            raise NoSpace("the volume would need more pages than there is room for")

    def _change_store(self, changes):
        self._accepted.append(changes)
        try:
            self._store.change(changes)
        except (PowerCut, WornOut):
            self._failed = True
            raise


def _check_batch(operations):
    if not 1 <= len(operations) <= MOST_IN_BATCH:
        raise InvalidBatch(f"a batch has 1 to {MOST_IN_BATCH} operations")
    for at, operation in enumerate(operations):
        if not _is_right(operation):
            raise InvalidOperation(at)


def _is_right(operation):
    if operation[0] not in OPERATIONS:
        return False
    try:
        check_operation(operation)
    except TidemarkError:
        return False
    return True


def _make_in_batch(tree, at, operation):
    try:
        return make_operation(tree, operation)
    except FileError as error:
        raise OperationRefused(at, word_of(error))

"""The errors of the program, and their words."""


class TidemarkError(ValueError):
    """The base class of all errors that the program raises."""


class InvalidSize(TidemarkError):
    """A chip would have too few or too many blocks or pages."""


class InvalidFates(TidemarkError):
    """A list of fates is too long, or holds a word that is no fate."""


class InvalidLooks(TidemarkError):
    """A list of looks is too long."""


class NoSuchBlock(TidemarkError):
    """The chip has no block with this number."""


class NoSuchPage(TidemarkError):
    """The block has no page with this number."""


class InvalidContent(TidemarkError):
    """A content does not fit a page."""


class InvalidDigits(TidemarkError):
    """A string is not the digits of a page."""


class InvalidEndurance(TidemarkError):
    """An endurance is out of its bounds."""


class PowerCut(TidemarkError):
    """The power was cut, or a program or an erase was refused."""


class WornOut(TidemarkError):
    """Too many blocks are bad, or no block is left to write to."""


class NoVolume(TidemarkError):
    """The chip holds no volume."""


class VolumeDown(TidemarkError):
    """The volume is down."""


class ReadOnly(TidemarkError):
    """The volume is read-only."""


class NoSpace(TidemarkError):
    """The volume would need more pages than its chip can give."""


class TooMuch(TidemarkError):
    """A batch puts too many values."""


class TooManyDeeds(TidemarkError):
    """The calls of the explorer make too many programs and erases."""


class InvalidPath(TidemarkError):
    """A string is not an absolute path."""


class InvalidTarget(TidemarkError):
    """A string is not the target of a link."""


class InvalidOffset(TidemarkError):
    """An offset is out of its bounds."""


class InvalidLength(TidemarkError):
    """A length is out of its bounds."""


class TooManyOctets(TidemarkError):
    """An operation is given too many octets."""


class InvalidPattern(TidemarkError):
    """A string is not a pattern."""


class InvalidBatch(TidemarkError):
    """A batch has too few or too many operations."""


class InvalidCalls(TidemarkError):
    """The explorer is given too few or too many calls."""


class InvalidOperation(TidemarkError):
    """An operation of a batch is not one."""

    def __init__(self, index):
        super().__init__(f"operation {index} is not one")
        self.index = index


class InvalidCall(TidemarkError):
    """A call of the explorer is not one."""

    def __init__(self, index):
        super().__init__(f"call {index} is not one")
        self.index = index


class FileError(TidemarkError):
    """The base class of the reasons to refuse an operation on files."""


class NotDirectory(FileError):
    """A node is not a directory."""


class NotFound(FileError):
    """A directory has no entry with the name."""


class TooManyLinks(FileError):
    """A path leads through too many links."""


class RootFixed(FileError):
    """The root has no place and no entry."""


class IsDirectory(FileError):
    """A node is a directory, or is not a file."""


class FileTooLarge(FileError):
    """A file would have too many octets."""


class AlreadyExists(FileError):
    """A directory has an entry with the name already."""


class DirectoryFull(FileError):
    """A directory has no room for one more entry."""


class NotEmpty(FileError):
    """A directory has entries."""


class NotLink(FileError):
    """A node is not a link."""


class TooManyOpen(FileError):
    """All handles are in use."""


class TooManyFiles(FileError):
    """All numbers of nodes are in use."""


class WithinItself(FileError):
    """A directory would lie below itself."""


class NotOpen(FileError):
    """A handle is not in use."""


class OperationRefused(TidemarkError):
    """An operation of a batch is refused, for the reason that the word names."""

    def __init__(self, index, word):
        super().__init__(f"operation {index} is refused: {word}")
        self.index = index
        self.word = word


class CallRefused(TidemarkError):
    """A call of the explorer is refused, for the reason that the word names."""

    def __init__(self, index, word):
        super().__init__(f"call {index} is refused: {word}")
        self.index = index
        self.word = word


def word_of(error):
    """Return the word of an error."""
    if isinstance(error, OperationRefused):
        return f"operation {error.index}: {error.word}"
    if isinstance(error, CallRefused):
        return f"call {error.index}: {error.word}"
    return error.__class__.__name__.lower()

"""Stores and chips for tests: mounted, planted by hand, and what they hold."""

from model import Model, told

from tidemark.chip.chip import Chip
from tidemark.errors import PowerCut, WornOut
from tidemark.index.index import Index
from tidemark.store.starting import format_chip, mount_store
from tidemark.store.store import Store

ATTRIBUTES = """
shape root home anchor position buffer places recorded bad clean item_count journal_at unmarked head generation
""".split()


class Numbers:
    """A row of numbers that is the same each time."""

    def __init__(self, seed):
        self.seed = seed * 2654435761 + 12345

    def below(self, bound):
        self.seed = (self.seed * 6364136223846793005 + 1442695040888963407) % 2**64
        return (self.seed >> 33) % bound

    def one_of(self, found):
        return found[self.below(len(found))]


def nothing(values):
    """Settling changes that change nothing."""
    return []


def formatted(blocks=24, pages=16):
    chip = Chip(blocks, pages)
    format_chip(chip)
    return chip


def mounted(blocks=24, pages=16):
    return mount_store(formatted(blocks, pages), nothing)


def value_of(key):
    return (key % 256, key // 256 % 256)


def root_of(blocks, places, *, journal=(0, 1), number=5, epoch=3, tree=None, recorded=1, bad=()):
    """A root; `places` is a dict, and `recorded` a number for all blocks or a dict of what differs from 1."""
    erases = [recorded] * blocks if isinstance(recorded, int) else [recorded.get(block, 1) for block in range(blocks)]
    entries = tuple(places.get(logical) for logical in range(blocks))
    return ("root", number, epoch, tree, journal, entries, tuple(erases), tuple(bad))


def bare_store(places=None, *, shape=(24, 16), home=0, position=2, leaves=None, **told_by_root):
    """A store as a mount begins it, on a chip that holds nothing; `leaves` is a dict from keys to addresses."""
    index = Index()
    for key, address in (leaves or {}).items():
        index.put(key, address, value_of(key))
    root = root_of(shape[0], places or {0: 1, 1: 2}, **told_by_root)
    return Store(Chip(*shape), home, root, index, position)


def write_nodes(index, logical, page=0):
    """Write all nodes of an index into a logical block, and return their contents in order."""
    contents = []
    while index.next_node() is not None:
        level, number, children = index.next_node()
        index.write_node(level, number, (logical, page + len(contents)))
        contents.append(("node", level, children))
    return contents


def planted(spread, *, shape=(24, 16), home=0, places=None, nodes_in=2, first_page=0, mark=True, **told_by_root):
    """A chip with a tree that was programmed by hand.

    `spread` tells the keys in each logical block, `nodes_in` the logical block of the nodes; the physical block of
    a logical block is the next number unless `places` tells it."""
    chip = Chip(*shape)
    used = {0: 1, 1: 2, nodes_in: nodes_in + 1, **{logical: logical + 1 for logical in spread}, **(places or {})}
    index = Model()
    for logical, keys in spread.items():
        for page, key in enumerate(keys):
            index.put(key, (logical, page), value_of(key))
            assert chip.program(used[logical], page, ("item", 0, 0, False, key, value_of(key))) == "done"
    start = len(spread.get(nodes_in, []))
    for page, content in enumerate(write_nodes(index, nodes_in, start)):
        assert chip.program(used[nodes_in], start + page, content) == "done"
    root = root_of(shape[0], used, tree=index.written.get((3, 0)), **told_by_root)
    assert chip.program(home, first_page, root) == "done"
    if mark:
        assert chip.program(home, first_page + 1, ("mark", root[1])) == "done"
    return chip


def shown(store):
    return {key: store.look(key) for key in store.keys_shown()}


def attributes(store):
    return {name: getattr(store, name) for name in ATTRIBUTES}


def whole_store(store):
    """Everything that a store tells, in a form of its own."""
    return repr(attributes(store)) + repr(told(store.index))


def erased(chip):
    return [chip.erases(block) for block in range(chip.shape[0])]


def full_pages(chip, block):
    """The contents of the pages of a block up to the last one that was programmed; None for other states."""
    states = [chip.state(block, page) for page in range(chip.shape[1])]
    contents = [state[1] if state[0] == "full" else None if state == ("blank",) else state[0] for state in states]
    while contents and contents[-1] is None:
        contents.pop()
    return contents


def outcome(call, *arguments):
    """What a call of a store returns, or the error that it raises, as a word."""
    try:
        return call(*arguments)
    except PowerCut:
        return "cut"
    except WornOut:
        return "worn"

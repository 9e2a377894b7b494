"""What several tests use: contents, pages put together by hand, and states of chips."""

NONE_OF_32 = (None,) * 32


def root(number=7, epoch=3, tree=(2, 5), journal=(0, 1), places=(4, None, 6), erases=(1, 258, 66051), bad=(9,)):
    return ("root", number, epoch, tree, journal, places, erases, bad)


def item(epoch=1, index=2, last=True, key=70, value=(9, 0, 255)):
    return ("item", epoch, index, last, key, value)


def node(level=0, children=((1, 2),) + (None,) * 30 + ((47, 31),)):
    return ("node", level, children)


def mark(number=5):
    return ("mark", number)


ORDINARY = [
    root(),
    root(tree=None, journal=(), places=(), erases=(), bad=()),
    root(4294967295, 4294967295, (47, 31), (47,) * 48, (47,) * 48, (4294967295,) * 48, (47,) * 48),
    root(places=(None,) * 48),
    root(0, 0, (0, 0), (0,), (0,), (0,), (0,)),
    item(),
    item(last=False, value=None),
    item(value=()),
    item(4294967295, 4294967295, True, 4294967295, (255,) * 448),
    item(0, 0, False, 0, (0,) * 448),
    node(),
    node(255, ((47, 31),) * 32),
    node(3, NONE_OF_32),
    mark(),
    mark(0),
    mark(4294967295),
]


def weighed_sums(page):
    """The sums as the document words them, weight by weight."""
    octets = [page[0]] + list(page[5:512])
    first = sum(octets) % 65521
    second = sum(octet * (508 - at) for at, octet in enumerate(octets)) % 65521
    return first, second


def page_of(kind, body):
    """A page with right sums, whatever its body."""
    page = [kind, 0, 0, 0, 0] + list(body)
    page += [0] * (512 - len(page))
    first, second = weighed_sums(page)
    page[1:5] = [first // 256, first % 256, second // 256, second % 256]
    return page


def all_states(chip):
    blocks, pages = chip.shape
    return [[chip.state(block, page) for page in range(pages)] for block in range(blocks)]


def whole(chip):
    """Everything that a chip tells without being changed."""
    blocks = range(chip.shape[0])
    return (
        chip.shape,
        chip.powered,
        chip.refused,
        chip.generation,
        chip.fates_left(),
        chip.looks_left(),
        all_states(chip),
        [chip.erases(block) for block in blocks],
        [chip.is_alive(block) for block in blocks],
    )

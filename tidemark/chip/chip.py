"""The simulated chip: its blocks, its power, and its lists of fates and looks."""

from tidemark.chip.block import Block, is_unstable, state_reading
from tidemark.errors import InvalidFates, InvalidLooks, InvalidSize, NoSuchBlock, NoSuchPage

LEAST_BLOCKS = 24
MOST_BLOCKS = 48
LEAST_PAGES = 16
MOST_PAGES = 32
MOST_PLANNED = 200

ANSWERS = {"ok": "done", "fail": "failed", "before": "cut", "during": "cut"}


class Chip:
    """A flash chip, whose failures and power cuts are told by its fates."""

    def __init__(self, blocks, pages):
        if not LEAST_BLOCKS <= blocks <= MOST_BLOCKS or not LEAST_PAGES <= pages <= MOST_PAGES:
            raise InvalidSize(f"a chip has 24 to 48 blocks of 16 to 32 pages, not {blocks} of {pages}")
        self.shape = (blocks, pages)
        self.powered = True
        self.refused = 0
        self.generation = 0
        self._blocks = [Block(pages) for block in range(blocks)]
        self._fates = []
        self._looks = []

    def plan(self, fates, looks):
        """Replace the lists of fates and looks."""
        if len(fates) > MOST_PLANNED or any([fate not in ANSWERS for fate in fates]):
            raise InvalidFates("there are at most 200 fates, each of them ok, fail, before or during")
        if len(looks) > MOST_PLANNED:
            raise InvalidLooks("there are at most 200 looks")
        self._fates = list(fates)
        self._looks = list(looks)

    def fates_left(self):
        """Return the list of the fates that are left."""
        return list(self._fates)

    def looks_left(self):
        """Return the list of the looks that are left."""
        return list(self._looks)

    def program(self, block, page, content):
        """Program a page, and return what became of it."""
        self._check_page(block, page)
        held = self._blocks[block]
        if not self.powered or not held.alive or not held.is_blank_from(page):
            return self._refuse()
        fate = self._take_fate()
        held.meet_program(page, content, fate)
        return ANSWERS[fate]

    def erase(self, block):
        """Erase a block, and return what became of it."""
        self._check_block(block)
        if not self.powered:
            return self._refuse()
        held = self._blocks[block]
        if not held.alive:
            return "failed"
        fate = self._take_fate()
        held.meet_erase(fate)
        return ANSWERS[fate]

    def read(self, block, page):
        """Return how a page reads now."""
        self._check_page(block, page)
        state = self._blocks[block].states[page]
        look = self._take_look() if is_unstable(state) else True
        return state_reading(state, look)

    def scan(self):
        """Read every page once, and return the readings of each block."""
        blocks, pages = self.shape
        scanned = []
        for block in range(blocks):
            scanned.append([self.read(block, page) for page in range(pages)])
        return scanned

    def state(self, block, page):
        """Return the state of a page."""
        self._check_page(block, page)
        return self._blocks[block].states[page]

    def erases(self, block):
        """Return how often a block was erased."""
        self._check_block(block)
        return self._blocks[block].erased

    def is_alive(self, block):
        """Return True if a block is alive."""
        self._check_block(block)
        return self._blocks[block].alive

    def switch_on(self):
        """Give the chip power."""
        self.powered = True

    def copied(self):
        """Return a chip of its own with the same blocks, with power, without fates and looks."""
        blocks, pages = self.shape
        twin = Chip(blocks, pages)
        twin.refused = self.refused
        twin.generation = self.generation
        twin._blocks = [block.copied() for block in self._blocks]
        return twin

    def _check_block(self, block):
        if not 0 <= block < self.shape[0]:
            raise NoSuchBlock(f"there is no block {block}")

    def _check_page(self, block, page):
        self._check_block(block)
        if not 0 <= page < self.shape[1]:
            raise NoSuchPage(f"there is no page {page}")

    def _refuse(self):
        self.refused += 1
        return "refused"

    def _take_fate(self):
        fate = self._fates.pop(0) if self._fates else "ok"
        if ANSWERS[fate] == "cut":
            self.powered = False
        return fate

    def _take_look(self):
        return self._looks.pop(0) if self._looks else True

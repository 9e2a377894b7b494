"""A chip that is watched while calls are made."""


class WatchedChip:
    """Passes on what a volume asks of a chip, and keeps its deeds: the programs, and the erases of blocks alive."""

    def __init__(self, chip):
        self.shape = chip.shape
        self.generation = chip.generation
        self.deeds = []
        self._chip = chip

    def program(self, block, page, content):
        """Program a page."""
        self.deeds.append(("program", block, page))
        return self._chip.program(block, page, content)

    def erase(self, block):
        """Erase a block."""
        if self._chip.is_alive(block):
            self.deeds.append(("erase", block, None))
        return self._chip.erase(block)

    def read(self, block, page):
        """Return how a page reads now."""
        return self._chip.read(block, page)

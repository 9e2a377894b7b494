"""One block of a chip: the states of its pages, its erases, and whether it is alive."""

BLANK = ("blank",)
DAMAGED = ("damaged",)
SPOILT = ("spoilt",)

ERASED_STATES = {"ok": ("blank",), "fail": ("spoilt",), "during": ("half",)}


def is_unstable(state):
    """Return True if a page in this state reads by a look."""
    return state[0] in ("shaky", "half")


def state_reading(state, look):
    """Return how a page in this state reads with this look."""
    if is_unstable(state) and not look:
        return DAMAGED
    if state[0] in ("full", "shaky"):
        return ("right", state[1])
    if state[0] in ("blank", "half"):
        return BLANK
    return DAMAGED


class Block:
    """A block, which knows neither the power nor the fates of its chip."""

    def __init__(self, pages):
        self.states = [BLANK] * pages
        self.alive = True
        self.erased = 0

    def is_blank_from(self, page):
        """Return True if this page and all pages after it are blank."""
        return all([state == BLANK for state in self.states[page:]])

    def meet_program(self, page, content, fate):
        """Change the page as the fate of its program decides."""
        if fate == "ok":
            self.states[page] = ("full", content)
        elif fate == "fail":
            self.states[page] = SPOILT
        elif fate == "during":
            self.states[page] = ("shaky", content)

    def meet_erase(self, fate):
        """Change the block as the fate of its erase decides."""
        if fate == "before":
            return
        self.erased += 1
        self.alive = fate != "fail"
        self.states = [ERASED_STATES[fate]] * len(self.states)

    def copied(self):
        """Return a block of its own in the same state."""
        twin = Block(len(self.states))
        twin.states = list(self.states)
        twin.alive = self.alive
        twin.erased = self.erased
        return twin

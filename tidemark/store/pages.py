"""What a store in memory knows of the blocks and pages of its chip."""


class StorePages:
    """The part of a store that tells where its root stands, and which blocks it uses."""

    def __init__(self, home, root):
        _, _, _, _, _, places, erases, bad = root
        self.root = root
        self.home = home
        self.anchor = home
        self.places = list(places)
        self.recorded = list(erases)
        self.bad = list(bad)
        self.clean = []

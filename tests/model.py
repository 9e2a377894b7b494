"""A plain model of an index, which says what the points 22 to 29 say and nothing faster."""

LEVELS = (0, 1, 2, 3)


class Model:
    def __init__(self):
        self.keys = {}
        self.written = {}

    def copied(self):
        twin = Model()
        twin.keys = dict(self.keys)
        twin.written = dict(self.written)
        return twin

    def covering(self, key):
        return [(level, key // 32 ** (level + 1)) for level in LEVELS]

    def nodes(self):
        return {place for key in self.keys for place in self.covering(key)}

    def above(self, level, number):
        return [(upper, number // 32 ** (upper - level)) for upper in LEVELS if upper >= level]

    def put(self, key, address, octets):
        self.keys[key] = (address, octets)
        for place in self.covering(key):
            self.written.pop(place, None)

    def drop(self, key):
        if key in self.keys:
            del self.keys[key]
            for place in self.covering(key):
                self.written.pop(place, None)

    def mark_block(self, block):
        for level, number in [place for place, address in self.written.items() if address[0] == block]:
            for place in self.above(level, number):
                self.written.pop(place, None)

    def children(self, level, number):
        below = [32 * number + child for child in range(32)]
        if level == 0:
            return tuple(self.keys[key][0] if key in self.keys else None for key in below)
        return tuple(self.written.get((level - 1, child)) for child in below)

    def ordered(self, level=3, number=0):
        """All nodes that exist, in the order of point 28."""
        found = []
        if level > 0:
            nodes = self.nodes()
            for child in range(32 * number, 32 * number + 32):
                if (level - 1, child) in nodes:
                    found += self.ordered(level - 1, child)
        return found + [(level, number)]

    def next_node(self):
        for level, number in self.ordered() if self.keys else []:
            if (level, number) not in self.written:
                return level, number, self.children(level, number)
        return None

    def write_node(self, level, number, address):
        self.written[(level, number)] = address

    def told(self):
        """Everything that an index tells."""
        return {
            "keys": sorted(self.keys),
            "next": self.next_node(),
            "root": self.written.get((3, 0)),
            "unwritten": len(self.nodes()) - len(self.written),
            "nodes": sorted((level, number, address) for (level, number), address in self.written.items()),
            "live": sorted([leaf[0] for leaf in self.keys.values()] + list(self.written.values())),
        }


def told(index):
    return {
        "keys": index.keys_sorted(),
        "next": index.next_node(),
        "root": index.root_address(),
        "unwritten": index.unwritten_count(),
        "nodes": index.node_addresses(),
        "live": index.live_addresses(),
    }

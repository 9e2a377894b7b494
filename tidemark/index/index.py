"""The index in memory: the keys in use, and the nodes that cover them."""

from tidemark.index.levels import CHILDREN, LEVELS, ROOT_LEVEL, ROOT_NUMBER, child_numbers


class Index:
    """Keys with their addresses and values, and nodes of which each is written or not."""

    def __init__(self):
        self._leaves = {}
        # For each level a dict from the numbers of the nodes that exist to their addresses, None if not written.
        self._nodes = [{} for level in range(LEVELS)]

    def put(self, key, address, octets):
        """Give a key an address and a value."""
        self._leaves[key] = (address, octets)
        self._set_unwritten(0, key // CHILDREN)

    def drop(self, key):
        """Remove a key if it is in use."""
        if key not in self._leaves:
            return
        del self._leaves[key]
        self._set_unwritten(0, key // CHILDREN)
        self._remove_empty(key // CHILDREN)

    def find(self, key):
        """Return the address and the value of a key, or None."""
        return self._leaves.get(key)

    def keys_sorted(self):
        """Return the ascending list of the keys in use."""
        return sorted(self._leaves)

    def mark_block(self, block):
        """Let the written nodes in this block, and the nodes above them, be not written."""
        for level in range(LEVELS):
            nodes = self._nodes[level]
            marked = [number for number in nodes if nodes[number] is not None and nodes[number][0] == block]
            for number in marked:
                self._set_unwritten(level, number)

    def next_node(self):
        """Return the level, the number and the children of the next node, or None."""
        level = ROOT_LEVEL
        number = ROOT_NUMBER
        if not self._is_unwritten(level, number):
            return None
        # Nothing is unwritten below a written node, so only children that are not written lead on.
        while level > 0:
            child = self._unwritten_child(level, number)
            if child is None:
                break
            level -= 1
            number = child
        return level, number, self._children(level, number)

    def write_node(self, level, number, address):
        """Let the next node be written at this address."""
        self._nodes[level][number] = address

    def root_address(self):
        """Return the address of the root node, or None."""
        return self._nodes[ROOT_LEVEL].get(ROOT_NUMBER)

    def unwritten_count(self):
        """Return how many nodes exist and are not written."""
        many = 0
        for nodes in self._nodes:
            many += len([number for number in nodes if nodes[number] is None])
        return many

    def node_addresses(self):
        """Return the ascending list of the levels, numbers and addresses of the written nodes."""
        found = []
        for level, nodes in enumerate(self._nodes):
            written = [number for number in nodes if nodes[number] is not None]
            found.extend([(level, number, nodes[number]) for number in sorted(written)])
        return found

    def live_addresses(self):
        """Return the ascending list of the addresses of the keys and of the written nodes."""
        found = [address for address, octets in self._leaves.values()]
        for nodes in self._nodes:
            found.extend([address for address in nodes.values() if address is not None])
        return sorted(found)

    def copied(self):
        """Return an index of its own with the same keys and nodes."""
        twin = Index()
        twin._leaves = dict(self._leaves)
        twin._nodes = [dict(nodes) for nodes in self._nodes]
        return twin

    def _set_unwritten(self, lowest, number):
        above = number
        for level in range(lowest, LEVELS):
            self._nodes[level][above] = None
            above = above // CHILDREN

    def _remove_empty(self, number):
        above = number
        for level in range(LEVELS):
            below = self._below(level)
            if any([child in below for child in child_numbers(above)]):
                return
            del self._nodes[level][above]
            above = above // CHILDREN

    def _below(self, level):
        return self._leaves if level == 0 else self._nodes[level - 1]

    def _is_unwritten(self, level, number):
        nodes = self._nodes[level]
        return number in nodes and nodes[number] is None

    def _unwritten_child(self, level, number):
        for child in child_numbers(number):
            if self._is_unwritten(level - 1, child):
                return child
        return None

    def _children(self, level, number):
        numbers = child_numbers(number)
        if level > 0:
            nodes = self._nodes[level - 1]
            return tuple([nodes.get(child) for child in numbers])
        return tuple([self._leaves[key][0] if key in self._leaves else None for key in numbers])

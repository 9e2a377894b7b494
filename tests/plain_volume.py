"""A plain volume: a plain tree with the bounds of a chip, which knows nothing of pages, and the calls of volumes."""

from plain_store import limits
from plain_tree import PlainTree, Refused, plain_values, refuse_if
from plain_tools import path_from, plain_ways

# The calls that make several changes, with paths that may be long.
SEVERAL = ("remove_tree", "copy_tree")


def counted(values):
    """For how many pages the keys of the values are counted (point 31)."""
    nodes = {(level, key // 32 ** (level + 1)) for key in values for level in range(4)}
    return len(values) + 2 * len(nodes)


class PlainVolume:
    """`states` are the values at first and behind each change that was accepted."""

    def __init__(self, shape, nodes=None):
        self.limit = limits(*shape)[1]
        self.tree = PlainTree()
        if nodes is not None:
            self.tree.nodes = nodes
        self.states = [plain_values(self.tree)]

    def twin(self):
        """A plain volume of its own with the same tree, which knows no earlier states."""
        found = PlainVolume((24, 16), self.tree.copied().nodes)
        found.tree.handles = list(self.tree.handles)
        found.limit = self.limit
        return found

    def call(self, call):
        """The result of a call; Refused is raised with the word of its error."""
        if call[0] == "sync":
            return None
        parts = self.parts(call)
        results = [self.one(call, part) for part in parts]
        return len(parts) if call[0] in SEVERAL else results[0]

    def redo(self, call, many):
        """Make the parts of a call until this many changes were accepted."""
        for part in self.parts(call):
            if len(self.states) <= many:
                self.one(call, part)

    def parts(self, call):
        """The operations of a call, each of which is a change of its own; a batch is one."""
        if call[0] == "remove_tree":
            return self.removals(*call[1:])
        if call[0] == "copy_tree":
            return self.copies(*call[1:])
        return [] if call[0] == "sync" else [call]

    def one(self, call, part):
        saved = self.tree.copied()
        try:
            if part[0] == "batch":
                result = self.batch(part[1])
            else:
                result = self.tree.make(part, call[0] not in SEVERAL)
            self.accept()
            return result
        except Refused:
            self.tree = saved
            raise

    def accept(self):
        values = plain_values(self.tree)
        if values != self.states[-1]:
            refuse_if(counted(values) > self.limit, "nospace")
            self.states.append(values)

    def batch(self, operations):
        refuse_if(not 1 <= len(operations) <= 16, "invalidbatch")
        for operation in operations:
            try:
                self.tree.check(operation)
            except Refused:
                raise Refused("invalidoperation") from None
        results = []
        for at, operation in enumerate(operations):
            try:
                results.append(self.tree.make(operation))
            except Refused as refusal:
                raise Refused(f"operation {at}: {refusal.args[0]}") from None
        before = self.states[-1]
        after = plain_values(self.tree)
        refuse_if(len([key for key in after if after[key] != before.get(key)]) > 20, "toomuch")
        return results

    def straight(self, directory):
        """The path of a directory that leads through no link."""
        ways = plain_ways(self.tree, 0)
        return path_from("/", [way for way in ways if ways[way] == directory][0])

    def removals(self, path):
        self.tree.check(("stat", path))
        directory, name, number = self.tree.entry(path)
        top = path_from(self.straight(directory), (name,))
        ways = plain_ways(self.tree, number)
        words = {"directory": "rmdir", "file": "unlink", "link": "unlink"}
        return [(words[self.tree.nodes[ways[way]][0]], path_from(top, way)) for way in list(ways)[::-1]]

    def copies(self, source, target):
        self.tree.check(("link", source, target))
        number = self.tree.follow(source)
        directory, name = self.tree.place(target)
        refuse_if(name in self.tree.nodes[directory][1], "alreadyexists")
        top = path_from(self.straight(directory), (name,))
        firsts = {}
        made = []
        for way, below in plain_ways(self.tree, number).items():
            path = path_from(top, way)
            kind, body, _ = self.tree.nodes[below]
            if below in firsts:
                made.append(("link", firsts[below], path))
            elif kind == "file":
                made += [("write", path, at, body[at : at + 5376]) for at in range(0, max(1, len(body)), 5376)]
            else:
                made.append(("mkdir", path) if kind == "directory" else ("symlink", body, path))
            firsts.setdefault(below, path)
        return made

"""The nodes of a tree of files."""


class Node:
    """A file, a directory or a link, which is never changed, but replaced by another node."""

    def __init__(self, kind, body, *, links=1):
        self.kind = kind
        self.body = body
        self.links = links

    def __eq__(self, other):
        return (
            isinstance(other, Node)
            and self.kind == other.kind
            and self.body == other.body
            and self.links == other.links
        )

    def measure(self):
        """Return the number of octets, of entries, or of characters of the target."""
        return len(self.body)

    def entries(self):
        """Return the pairs of the names and numbers in a directory; other nodes have none."""
        return self.body if self.kind == "directory" else ()

    def with_body(self, body):
        """Return a node that differs in its body only."""
        return Node(self.kind, body, links=self.links)

    def with_links(self, links):
        """Return a node that differs in the number of its names only."""
        return Node(self.kind, self.body, links=links)

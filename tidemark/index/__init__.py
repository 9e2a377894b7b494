"""The index of keys and the nodes above them."""

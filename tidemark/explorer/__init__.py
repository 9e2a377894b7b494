"""Power cuts explored, and the lifetimes of chips."""

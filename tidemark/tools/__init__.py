"""Tools on trees of files."""

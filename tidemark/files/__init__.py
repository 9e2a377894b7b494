"""The tree of files."""

"""The choice of blocks."""

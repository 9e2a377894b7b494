"""The store of values by keys on a chip."""

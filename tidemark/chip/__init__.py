"""The simulated chip."""

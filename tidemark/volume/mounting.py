"""Formatting, mounting and peeking at the volume of a chip."""

from tidemark.files.values import settle, tree_of
from tidemark.store.starting import format_chip, mount_store, peek_values
from tidemark.volume.volume import Volume


def format_flash(chip):
    """Switch the power on, and format the chip."""
    format_chip(chip)


def mount_flash(chip):
    """Switch the power on, and return the volume of the chip, which is up."""
    store = mount_store(chip, settle)
    return Volume(store, tree_of(store.values_shown()), chip.shape)


def peek_flash(chip):
    """Return the read-only volume of the chip."""
    return Volume(None, tree_of(peek_values(chip, settle)), chip.shape)

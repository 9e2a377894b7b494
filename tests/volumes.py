"""Volumes for tests, mounted as they are, or beside the store of their mount."""

from stores import formatted
from trees import told

from tidemark.chip.chip import Chip
from tidemark.errors import TidemarkError
from tidemark.files.values import settle, tree_of
from tidemark.store.starting import mount_store
from tidemark.volume.mounting import format_flash, mount_flash, peek_flash
from tidemark.volume.volume import Volume


def volume_on(chip):
    """The store of a mount of the chip, and its volume."""
    store = mount_store(chip, settle)
    return store, Volume(store, tree_of(store.values_shown()), chip.shape)


def new_volume(blocks=24, pages=16):
    return volume_on(formatted(blocks, pages))


def flash(blocks=24, pages=16):
    """A chip that was formatted and mounted, and its volume."""
    chip = Chip(blocks, pages)
    format_flash(chip)
    return chip, mount_flash(chip)


def read_only(chip):
    return peek_flash(chip)


def state_of(volume):
    """What a volume that is not down tells of itself."""
    return told(volume.tree_now()), volume.accepted_changes(), volume.synced_count(), volume.is_up


def run_out(store):
    """Let the next flush of a store find no block that can be erased."""
    store.journal_at = (2, 0)
    store.chip.plan(["fail"] * 60, [])


def settled(values):
    """The values behind their settling changes."""
    found = {**values, **dict(settle(values))}
    return {key: value for key, value in found.items() if value is not None}


def prefixes(start, volume):
    """The settled values that the prefixes of the accepted changes make, from those on that were synced."""
    found = [start]
    for changes in volume.accepted_changes():
        values = {**found[-1], **dict(changes)}
        found.append({key: value for key, value in values.items() if value is not None})
    return [settled(values) for values in found[volume.synced_count() :]]


def answer_of(call, *arguments):
    """The result of a call, or the class of its error."""
    try:
        return ("done", call(*arguments))
    except TidemarkError as error:
        return error.__class__


def deeds_in(chip, call, *arguments):
    """How many fates a call takes from a chip; it must take less than 200."""
    chip.plan(["ok"] * 200, [])
    call(*arguments)
    left = len(chip.fates_left())
    assert left > 0
    chip.plan([], [])
    return 200 - left

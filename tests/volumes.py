"""Volumes for tests, made from mounted stores."""

from stores import formatted
from trees import told

from tidemark.files.values import settle, tree_of
from tidemark.store.starting import mount_store, peek_values
from tidemark.volume.volume import Volume


def volume_on(chip):
    """The store of a mount of the chip, and its volume."""
    store = mount_store(chip, settle)
    values = {key: store.look(key) for key in store.keys_shown()}
    return store, Volume(store, tree_of(values), chip.shape)


def new_volume(blocks=24, pages=16):
    return volume_on(formatted(blocks, pages))


def read_only(chip):
    return Volume(None, tree_of(peek_values(chip, settle)), chip.shape)


def state_of(volume):
    """What a volume that is not down tells of itself."""
    return told(volume.tree_now()), volume.accepted_changes(), volume.synced_count(), volume.is_up


def run_out(store):
    """Let the next flush of a store find no block that can be erased."""
    store.journal_at = (2, 0)
    store.chip.plan(["fail"] * 60, [])

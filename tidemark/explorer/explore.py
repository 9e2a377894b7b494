"""What the next mount would show if the power were cut at one of the deeds of some calls."""

from tidemark.errors import CallRefused, InvalidCall, InvalidCalls, PowerCut, TidemarkError, TooManyDeeds, word_of
from tidemark.explorer.watched import WatchedChip
from tidemark.files.values import settle, tree_of
from tidemark.store.changes import changed_values
from tidemark.store.starting import mount_store
from tidemark.tools.calls import is_call, make_call
from tidemark.volume.volume import Volume

MOST_CALLS = 16
MOST_DEEDS = 128


def explore(chip, calls):
    """Return the deeds of the calls, each with the results of a cut before it and of a cut during it."""
    _check_calls(calls)
    store = mount_store(chip.copied(), settle)
    deeds = _deeds_of(store, calls)
    if len(deeds) > MOST_DEEDS:
        raise TooManyDeeds(f"the calls make {len(deeds)} programs and erases, and {MOST_DEEDS} are explored")
    found = []
    for at, (deed, block, page) in enumerate(deeds):
        before = _result_of_cut(store, calls, at, "before")
        during = _result_of_cut(store, calls, at, "during")
        found.append((deed, block, page, before, during))
    return found


def _check_calls(calls):
    if not 1 <= len(calls) <= MOST_CALLS:
        raise InvalidCalls(f"1 to {MOST_CALLS} calls are explored, not {len(calls)}")
    for at, call in enumerate(calls):
        if not is_call(call):
            raise InvalidCall(at)


def _deeds_of(store, calls):
    """Return the programs and erases that calls make, but for erases of dead blocks."""
    watched = WatchedChip(store.chip.copied())
    volume = _volume_on(store, watched)
    for at, call in enumerate(calls):
        try:
            make_call(volume, call)
        except TidemarkError as error:
            raise CallRefused(at, word_of(error))
    return watched.deeds


def _volume_on(store, chip):
    """Return a volume of its own, as it is behind the mount of a store, on a copy of its chip."""
    return Volume(store.twin(chip), tree_of(store.values_shown()), chip.shape)


def _result_of_cut(store, calls, at, fate):
    """Return which prefix of the changes is mounted if the power is cut at a deed, or None."""
    chip = store.chip.copied()
    chip.plan(["ok"] * at + [fate], [])
    volume = _volume_on(store, chip)
    _make_until_cut(volume, calls)
    values = _values_mounted(chip)
    return None if values is None else _prefix_with(store.values_shown(), volume, values)


def _make_until_cut(volume, calls):
    try:
        for call in calls:
            make_call(volume, call)
    except PowerCut:
        return


def _values_mounted(chip):
    """Return the values that a mount of a copy of the chip shows, or None if it raises an error."""
    try:
        return mount_store(chip.copied(), settle).values_shown()
    except TidemarkError:
        return None


def _prefix_with(start, volume, values):
    """Return how many changes of a volume make these values, when they are settled; at least those it synced."""
    made = start
    changes = volume.accepted_changes()
    for many in range(len(changes) + 1):
        if many >= volume.synced_count() and changed_values(made, settle(made)) == values:
            return many
        if many < len(changes):
            made = changed_values(made, changes[many])
    return None

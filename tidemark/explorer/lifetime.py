"""How many erases a chip is sure to stand."""

from tidemark.errors import InvalidEndurance, NoVolume
from tidemark.store.found import standing_root

MOST_ENDURANCE = 1000000

# By how many erases a block may stay behind the others while they are levelled.
ALLOWED_SPREAD = 17


def lifetime(chip, endurance):
    """Return the recorded erases, the bad blocks, the least and the greatest erases, and the sure erases of a chip."""
    if not 1 <= endurance <= MOST_ENDURANCE:
        raise InvalidEndurance(f"an endurance is from 1 to {MOST_ENDURANCE}, not {endurance}")
    standing = standing_root(chip.scan())
    if standing is None:
        raise NoVolume("no root counts")
    _, _, _, _, _, _, erases, bad = standing[1]
    good = [block for block in range(chip.shape[0]) if block not in bad]
    recorded = [erases[block] for block in good if block < len(erases)]
    sure = max(0, len(good) * endurance - sum(recorded) - ALLOWED_SPREAD * len(good))
    return list(erases), list(bad), min(recorded, default=0), max(recorded, default=0), sure

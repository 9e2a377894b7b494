"""Changes, as a store takes them, made on values in a dict."""


def changed_values(values, changes):
    """Return a dict of the values behind the changes, of which those with None drop their keys."""
    changed = dict(values)
    for key, value in changes:
        if value is None:
            changed.pop(key, None)
        else:
            changed[key] = value
    return changed

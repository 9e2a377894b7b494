"""Names, paths and targets."""

NAME_CHARACTERS = "ABCDEFGHIJKLMNOPQRSTUVWXYZabcdefghijklmnopqrstuvwxyz0123456789_-."
LONGEST_NAME = 32
LONGEST_PATH = 256
MOST_NAMES = 16


def is_name(text):
    """Return True if the string is a name."""
    if not 1 <= len(text) <= LONGEST_NAME or text == "." * len(text):
        return False
    return all([character in NAME_CHARACTERS for character in text])


def is_path(text):
    """Return True if the string is an absolute path."""
    if text == "/":
        return True
    return len(text) <= LONGEST_PATH and text.startswith("/") and _are_names(text[1:].split("/"))


def is_target(text):
    """Return True if the string is an absolute or a relative path."""
    return is_path(text) or (len(text) <= LONGEST_PATH and _are_names(text.split("/")))


def names_of(path):
    """Return the list of the names of a path."""
    return [name for name in path.split("/") if name != ""]


def path_with(names):
    """Return the absolute path of these names, also if it is longer than an argument may be."""
    return "/" + "/".join(names)


def _are_names(texts):
    return len(texts) <= MOST_NAMES and all([is_name(text) for text in texts])

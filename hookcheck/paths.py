"""Keys, paths and their orders."""

FIRST_SIGNS = "abcdefghijklmnopqrstuvwxyz"
KEY_SIGNS = "abcdefghijklmnopqrstuvwxyzABCDEFGHIJKLMNOPQRSTUVWXYZ0123456789-"
LONGEST_KEY = 16


def is_key(text):
    """Tell whether the string is a key."""
    if text == "" or len(text) > LONGEST_KEY:
        return False
    return text[0] in FIRST_SIGNS and consists_of(text, KEY_SIGNS)


def consists_of(text, signs):
    """Tell whether each character of the text is one of the signs."""
    return all([sign in signs for sign in text])


def text_rank(text):
    """Return what orders strings: their ranks compare as the strings do."""
    return (len(text), text)


def path_rank(path):
    """Return what orders paths: their ranks compare as the paths do."""
    return tuple([text_rank(key) for key in path])


def compare_ranks(first, second):
    """Return -1, 0 or 1 for two ranks of one kind."""
    if first == second:
        return 0
    return -1 if first < second else 1


def compare_texts(first, second):
    """Return -1 if the first string comes before the second one, 1 if after it, 0 if they are equal."""
    return compare_ranks(text_rank(first), text_rank(second))


def compare_paths(first, second):
    """Return -1 if the first path comes before the second one, 1 if after it, 0 if they are equal."""
    return compare_ranks(path_rank(first), path_rank(second))


def covers(first, second):
    """Tell whether the second path begins with all keys of the first one."""
    return second[:len(first)] == first


def above(path):
    """Return the paths above the path other than the root, the shorter ones first."""
    return tuple([path[:many] for many in range(1, len(path))])


def read_path(text, most):
    """Return the path of at most so many keys that the string denotes, or None."""
    keys = text.split(".")
    if len(keys) > most or not all([is_key(key) for key in keys]):
        return None
    return tuple(keys)


def show_path(path):
    """Return the string as which the path is written."""
    return ".".join(path)

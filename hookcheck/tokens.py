"""Tokens: how a string is cut into them, and what a single one denotes."""

from hookcheck.paths import KEY_SIGNS, consists_of, is_key, read_path

RESERVED = (
    "hook", "each", "when", "then", "and", "or", "not", "has",
    "set", "default", "from", "remove", "reject", "true", "false",
)
DIGITS = "0123456789"
MOST_DIGITS = 6
LONGEST_TEXT = 30
LONGEST_REASON = 30


def tokens_of(text):
    """Return the longest parts of the string without spaces, in order."""
    return tuple([part for part in text.split(" ") if part != ""])


def read_name(token):
    """Return the name of a hook that the token is, or None."""
    return token if is_key(token) else None


def read_reason(token):
    """Return the reason that the token is, or None."""
    if 1 <= len(token) <= LONGEST_REASON and consists_of(token, KEY_SIGNS):
        return token
    return None


def read_collection(token):
    """Return the path of a collection that the token denotes, or None."""
    return read_free_path(token, 2)


def read_free_path(token, most):
    """Return the path that the token denotes, or None, also for a reserved word."""
    return None if token in RESERVED else read_path(token, most)


def read_place(token, each):
    """Return the place that the token denotes, or None; `each` tells whether there are entries."""
    if each and token.startswith("@"):
        return read_entry_place(token)
    return read_document_place(token)


def read_target(token, each):
    """Return the place of a target that the token denotes, or None; with entries it leads on from one."""
    return read_entry_place(token) if each else read_document_place(token)


def read_document_place(token):
    """Return the place that leads on from the root, or None."""
    path = read_free_path(token, 4)
    return None if path is None else ("path", path)


def read_entry_place(token):
    """Return the place that leads on from an entry, or None."""
    if token == "@":
        return ("entry", ())
    path = read_path(token[2:], 2) if token.startswith("@.") else None
    return None if path is None else ("entry", path)


def read_literal(token):
    """Return the scalar that the token denotes, or None."""
    if token in ("true", "false"):
        return (token,)
    number = read_integer(token)
    if number is not None:
        return ("number", number)
    return ("text", token[1:-1]) if is_text(token) else None


def read_integer(token):
    """Return the integer that the token denotes, or None."""
    if token == "0":
        return 0
    digits = token.removeprefix("-")
    if not 1 <= len(digits) <= MOST_DIGITS or digits[0] == "0" or not consists_of(digits, DIGITS):
        return None
    return int(token)


def is_text(token):
    """Tell whether the token is a text between quotation marks; a token has no spaces."""
    if not (token.startswith('"') and token.endswith('"')):
        return False
    return 1 <= len(token) - 2 <= LONGEST_TEXT and '"' not in token[1:-1]

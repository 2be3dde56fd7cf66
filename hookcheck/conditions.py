"""Entries, when conditions hold, their alternatives, and what breaks claims."""

from hookcheck.documents import held, keys_below


def entries(document, collection):
    """Return the present paths directly below the collection, ascending."""
    return tuple([collection + (key,) for key in keys_below(document, collection)])


def leads_to(place, entry):
    """Return the path to which the place leads for the entry, which only a place of an entry asks for."""
    word, path = place
    return entry + path if word == "entry" else path


def holds(condition, document, *, entry=None):
    """Tell whether the condition holds in the document, for the entry if one is passed."""
    word = condition[0]
    if word == "not":
        return not holds(condition[1], document, entry=entry)
    if word == "and":
        return holds(condition[1], document, entry=entry) and holds(condition[2], document, entry=entry)
    if word == "or":
        return holds(condition[1], document, entry=entry) or holds(condition[2], document, entry=entry)
    return satisfies(held(document, leads_to(condition[1], entry)), condition)


def satisfies(content, atom):
    """Tell whether a path that holds the content, None if it is absent, satisfies the atom."""
    word = atom[0]
    if content is None or word == "has":
        return content is not None
    if word == "=":
        return content == atom[2]
    if content[0] != "number":
        return False
    return content[1] < atom[2] if word == "<" else content[1] > atom[2]


def alternatives(condition):
    """Return the alternatives of the condition for True."""
    return alternatives_for(condition, True)


def alternatives_for(condition, truth):
    """Return the alternatives of the condition for the truth, repetitions and contradictions included."""
    word = condition[0]
    if word == "not":
        return alternatives_for(condition[1], not truth)
    if word not in ("and", "or"):
        return (((condition, truth),),)
    first = alternatives_for(condition[1], truth)
    second = alternatives_for(condition[2], truth)
    # For False "and" and "or" change places.
    if truth == (word == "and"):
        return tuple([one + other for one in first for other in second])
    return first + second


def breaches(claim, document):
    """Return the entries that break the claim, ascending; the root for a document that breaks it."""
    collection, condition = claim
    if collection is None:
        return () if holds(condition, document) else ((),)
    return tuple([entry for entry in entries(document, collection) if not holds(condition, document, entry=entry)])

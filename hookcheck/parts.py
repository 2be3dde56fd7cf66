"""Documents that fit a scope, and their parts with at most one unnamed entry."""

from hookcheck.documents import RECORD, document_of, held, keys_below, nodes, without
from hookcheck.errors import Misfit, NotParts


def unnamed_entries(scope, document):
    """Return the paths of the unnamed entries, collection by collection."""
    return tuple([path for _, path in numbered_entries(scope, document)])


def numbered_entries(scope, document):
    """Return the list of (number of the collection, path) of the unnamed entries, in their order."""
    found = []
    for number, (collection, named, _) in enumerate(scope[0]):
        unnamed = [key for key in keys_below(document, collection) if key not in named]
        found.extend([(number, collection + (key,)) for key in unnamed])
    return found


def misfit(scope, document):
    """Return the first misfit (kind, path), or None if the document fits."""
    _, slots, entry_slots = scope
    found = misfit_among(slots, (), document)
    for number, entry in numbered_entries(scope, document):
        if found is None:
            found = misfit_among(entry_slots[number], entry, document)
    return found


def refuse_misfit(scope, document):
    """Raise Misfit for the first misfit of the document."""
    wrong = misfit(scope, document)
    if wrong is not None:
        raise Misfit(wrong[0], wrong[1])


def misfit_among(slots, start, document):
    """Return the first misfit among the slots, whose paths lead on from the start, or None."""
    for slot in slots:
        path = start + slot[0]
        if not may_hold(slot[1], held(document, path)):
            return (slot[1], path)
    return None


def may_hold(kind, content):
    """Tell whether a slot of the kind may hold the content; None stands for absent."""
    if kind == "record":
        return content is None or content == RECORD
    return kind != "scalar" or content != RECORD


def parts(scope, document):
    """Return the document without its unnamed entries, and then for each of them the document without the others."""
    unnamed = unnamed_entries(scope, document)
    kept = [None] + list(unnamed)
    return tuple([without_all(document, [path for path in unnamed if path != one]) for one in kept])


def without_all(document, paths):
    """Return the document after the paths have been removed."""
    left = document
    for path in paths:
        left = without(left, path)
    return left


def joined(scope, parts):
    """Return the document that has the nodes of all the documents, which can be joined."""
    contents = {}
    seen = []
    common = without_all(parts[0], unnamed_entries(scope, parts[0]))
    for number, part in enumerate(parts):
        unnamed = unnamed_entries(scope, part)
        if len(unnamed) > 1 or without_all(part, unnamed) != common or any([path in seen for path in unnamed]):
            raise NotParts(number)
        seen.extend(unnamed)
        for path, content in nodes(part):
            contents[path] = content
    return document_of(tuple(contents.items()))

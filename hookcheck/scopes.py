"""Scopes: what rules see of documents."""

from hookcheck.errors import ScopeError
from hookcheck.paths import covers, path_rank
from hookcheck.slots import facts_of, free_letter, kinds_of, slot_rank, told_slots
from hookcheck.uses import named_paths

MOST_SAMPLES = 200


def scope_of(rules):
    """Return the scope (collections, slots, entry slots) of the rules."""
    collections = collections_of(rules)
    refuse_overlap([collection[0] for collection in collections])
    facts = facts_of(rules, collections)
    kinds = kinds_of(facts, collections)
    refuse_kinds(kinds, facts.scalars, collections)
    told = told_slots(facts, kinds)
    homes = [tuple([slot for home, slot in told if home == wanted]) for wanted in range(len(collections) + 1)]
    scope = (collections, homes[0], tuple(homes[1:]))
    if count_samples(scope) > MOST_SAMPLES:
        raise ScopeError("samples", ())
    return scope


def collections_of(rules):
    """Return (path, named keys, free key) for each collection, in the order of the first rules that have them."""
    paths = {rule[0]: True for rule in rules if rule[0] is not None}
    named = [path for rule in rules for path in named_paths(rule)]
    return tuple([told_collection(path, named) for path in paths])


def told_collection(collection, paths):
    """Return the collection as it is told, for the paths that the rules name."""
    depth = len(collection)
    keys = {path[depth]: True for path in paths if len(path) > depth and covers(collection, path)}
    named = [path[-1] for path in sorted([(key,) for key in keys], key=path_rank)]
    return (collection, tuple(named), free_letter(named))


def refuse_overlap(paths):
    """Raise ScopeError for the first collection for which another one lies above or below it."""
    for path in paths:
        if any([other != path and (covers(path, other) or covers(other, path)) for other in paths]):
            raise ScopeError("overlap", path)


def refuse_kinds(kinds, scalars, collections):
    """Raise ScopeError for the first slot that is a record and is used as a scalar."""
    wrong = sorted([slot for slot in scalars if kinds[slot] == "record"], key=slot_rank)
    if wrong:
        home, path = wrong[0]
        raise ScopeError("kinds", path if home == 0 else collections[home - 1][0] + ("@",) + path)


def count_samples(scope):
    """Return the number of samples of the scope."""
    collections, slots, entry_slots = scope
    below = slots_below(slots)
    many = ways_below((), below, None)
    for collection, inside in zip(collections, entry_slots):
        present = ways_of(inside[0], slots_below(inside), None) - 1
        many += ways_below((), below, collection[0]) * present
    return many


def slots_below(slots):
    """Return a dict that has for paths the list of the told slots directly below them."""
    below = {}
    for slot in slots:
        if slot[0]:
            below.setdefault(slot[0][:-1], []).append(slot)
    return below


def ways_below(path, below, needed):
    """Return in how many ways the slots below the path can be filled; a path that is needed is not absent."""
    many = 1
    for slot in below.get(path, []):
        many = many * ways_of(slot, below, needed)
    return many


def ways_of(slot, below, needed):
    """Return in how many ways the slot can be filled, absent included unless what is needed is at it or below."""
    if slot[1] != "record":
        return ways_alone(slot)
    filled = ways_below(slot[0], below, needed)
    return filled if needed is not None and covers(slot[0], needed) else filled + 1


def ways_alone(slot):
    """Return in how many ways a slot that has no slots below it can be filled."""
    return len(slot[4]) + 1 if slot[1] == "scalar" else 2

"""What the points 100 to 112, 130, 131 and 132 say, word by word; a slot is (where, path).

`where` is None for the document, and otherwise the collection inside of whose unnamed entries it lies.
"""

import functools
import itertools
import string

from hookcheck.documents import compare_scalars, document_of, held, keys_below
from hookcheck.paths import compare_paths
from hookcheck.pools import alike, pool_of

RECORD = ("record",)
NULL = ("null",)
by_path = functools.cmp_to_key(compare_paths)
by_scalar = functools.cmp_to_key(compare_scalars)


def atoms(condition):
    if condition is None:
        return []
    if condition[0] in ("not", "and", "or"):
        return sum([atoms(inner) for inner in condition[1:]], [])
    return [condition]


def places(rule):
    found = [atom[1] for atom in atoms(rule[1])]
    for action in rule[2]:
        found += [part for part in action[1:] if isinstance(part, tuple) and part[0] in ("path", "entry")]
    return found


def is_prefix(path, other):
    return other[:len(path)] == path


class Words:
    """The slots of rules and what is said of them."""

    def __init__(self, rules):
        self.rules = rules
        self.collections = list(dict.fromkeys(rule[0] for rule in rules if rule[0] is not None))
        names = [rule[0] for rule in rules if rule[0] is not None]
        names += [path for rule in rules for word, path in places(rule) if word == "path"]
        self.named = {}
        for collection in self.collections:
            keys = {
                path[len(collection)] for path in names if path != collection and is_prefix(collection, path)
            }
            self.named[collection] = sorted(keys, key=lambda key: (len(key), key))

    def slots(self, rule, place):
        """The slots to which the place of the rule leads."""
        word, path = place
        if word == "path":
            return [(None, path)]
        collection = rule[0]
        return [(None, collection + (key,) + path) for key in self.named[collection]] + [(collection, path)]

    def led(self):
        return {slot for rule in self.rules for place in places(rule) for slot in self.slots(rule, place)}

    def plain_slots(self):
        """All slots but those of the kind rest."""
        found = {(None, collection) for collection in self.collections} | self.led()
        found |= {(collection, ()) for collection in self.collections}
        for where, path in list(found):
            for many in range(len(path)):
                if where is not None or many > 0:
                    found.add((where, path[:many]))
        return found

    def used_as_scalars(self):
        found = set()
        for rule in self.rules:
            told = [atom[1] for atom in atoms(rule[1]) if atom[0] != "has"]
            told += [action[1] for action in rule[2] if action[0] in ("set", "default", "copy")]
            told += [action[2] for action in rule[2] if action[0] == "copy"]
            for place in told:
                found |= set(self.slots(rule, place))
        return found

    def kind(self, slot):
        where, path = slot
        if where is None and path in self.collections:
            return "record"
        lower = [other for at, other in self.led() if at == where]
        if where is None:
            lower += self.collections
        if any(other != path and is_prefix(path, other) for other in lower):
            return "record"
        return "scalar" if slot in self.used_as_scalars() else "any"

    def rests(self):
        """The slots of the kind rest; None among them if there is no letter left."""
        plain = self.plain_slots()
        cleared = set()
        for rule in self.rules:
            for action in rule[2]:
                if action[0] == "remove":
                    cleared |= set(self.slots(rule, action[1]))
        found = set()
        for where, path in plain:
            if self.kind((where, path)) != "record" or (where is None and path in self.collections):
                continue
            if any(at == where and is_prefix(other, path) for at, other in cleared):
                taken = {other[-1] for at, other in plain if at == where and other and other[:-1] == path}
                free = [letter for letter in string.ascii_lowercase if letter not in taken]
                found.add((where, path + (free[0],)) if free else None)
        return found

    def made(self, slot):
        found = []
        for rule in self.rules:
            tests = [(atom[1], (atom[0], atom[2])) for atom in atoms(rule[1]) if atom[0] != "has"]
            tests += [(action[1], ("=", action[2])) for action in rule[2] if action[0] in ("set", "default")]
            found += [test for place, test in tests if slot in self.slots(rule, place)]
        return found

    def ties(self):
        found = []
        for rule in self.rules:
            for _, target, source in [action for action in rule[2] if action[0] == "copy"]:
                if rule[0] is None:
                    found.append(((None, target[1]), (None, source[1])))
                    continue
                for key in self.named[rule[0]]:
                    entry = rule[0] + (key,)
                    from_slot = (None, source[1] if source[0] == "path" else entry + source[1])
                    found.append(((None, entry + target[1]), from_slot))
                from_slot = (None, source[1]) if source[0] == "path" else (rule[0], source[1])
                found.append(((rule[0], target[1]), from_slot))
        return found

    def linked(self, slot):
        """The slot and all slots that are linked with it."""
        found = {slot}
        while True:
            more = {b for a, b in self.ties() if a in found} | {a for a, b in self.ties() if b in found}
            if more <= found:
                return found
            found |= more

    def in_order(self, slots):
        """The slots as groups are numbered."""
        found = sorted([slot for slot in slots if slot[0] is None], key=lambda slot: by_path(slot[1]))
        for collection in self.collections:
            found += sorted([slot for slot in slots if slot[0] == collection], key=lambda slot: by_path(slot[1]))
        return found

    def told(self):
        """The scope, or ("ScopeError", reason, path)."""
        for one in self.collections:
            if any(one != other and (is_prefix(one, other) or is_prefix(other, one)) for other in self.collections):
                return ("ScopeError", "overlap", one)
        plain = self.in_order(self.plain_slots())
        scalars = self.used_as_scalars()
        for where, path in plain:
            if (where, path) in scalars and self.kind((where, path)) == "record":
                return ("ScopeError", "kinds", path if where is None else where + ("@",) + path)
        rests = self.rests()
        if None in rests:
            return ("ScopeError", "samples", ())
        ordered = self.in_order(set(plain) | rests)
        groups = [slot for slot in plain if len(self.linked(slot)) > 1 and self.first_linked(slot, plain) == slot]
        slots = {None: []}
        for collection in self.collections:
            slots[collection] = []
        for slot in ordered:
            slots[slot[0]].append(self.told_slot(slot, slot in rests, groups, plain))
        free = {
            collection: [key for key in string.ascii_lowercase if key not in self.named[collection]]
            for collection in self.collections
        }
        if not all(free.values()):
            return ("ScopeError", "samples", ())
        collections = tuple([(one, tuple(self.named[one]), free[one][0]) for one in self.collections])
        scope = (collections, tuple(slots[None]), tuple([tuple(slots[one]) for one in self.collections]))
        return scope if count_by_words(scope) <= 200 else ("ScopeError", "samples", ())

    def first_linked(self, slot, ordered):
        linked = self.linked(slot)
        return [other for other in ordered if other in linked][0]

    def told_slot(self, slot, rest, groups, plain):
        path = slot[1]
        if rest:
            return (path, "rest", None, (), ())
        if self.kind(slot) != "scalar":
            return (path, self.kind(slot), None, (), ())
        linked = self.linked(slot)
        group = groups.index(self.first_linked(slot, plain)) if len(linked) > 1 else None
        made = {test for other in linked for test in self.made(other)}
        tests = sorted([test for test in made if test[0] == "="], key=lambda test: by_scalar(test[1]))
        for word in "<>":
            tests += sorted([test for test in made if test[0] == word], key=lambda test: test[1])
        return (path, "scalar", group, tuple(tests), pool_of(tuple(tests), 1 if group is None else 2))


def count_by_words(scope):
    """The number of samples."""
    collections, slots, entry_slots = scope

    def ways(slot, among, left_out=()):
        path, kind, _, _, pool = slot
        if kind == "scalar":
            return 1 + len(pool)
        if kind in ("any", "rest"):
            return 2
        below = [other for other in among if len(other[0]) == len(path) + 1 and is_prefix(path, other[0])]
        return (0 if path in left_out else 1) + product([ways(other, among, left_out) for other in below])

    top = [slot for slot in slots if len(slot[0]) == 1]
    count = product([ways(slot, slots) for slot in top])
    for (collection, _, _), inside in zip(collections, entry_slots):
        left_out = [collection[:many] for many in range(1, len(collection) + 1)]
        entry = [slot for slot in inside if slot[0] == ()][0]
        count += product([ways(slot, slots, left_out) for slot in top]) * (ways(entry, inside) - 1)
    return count


def product(numbers):
    result = 1
    for number in numbers:
        result *= number
    return result


def fillings(slots):
    """All dicts of nodes for the slots in which none is present without the slot directly above it."""
    contents = []
    for path, kind, _, _, pool in slots:
        filled = [RECORD] if kind == "record" else list(pool) if kind == "scalar" else [NULL]
        contents.append([None] + filled)
    for told in itertools.product(*contents):
        filling = {slot[0]: content for slot, content in zip(slots, told) if content is not None}
        paths = {slot[0] for slot in slots}
        if all(path[:-1] in filling or path[:-1] not in paths or path == () for path in filling):
            yield filling


def samples_by_words(scope):
    """All samples, in any order."""
    collections, slots, entry_slots = scope
    found = []
    for filling in fillings(slots):
        found.append(filling)
        for (collection, _, free), inside in zip(collections, entry_slots):
            if collection in filling:
                for entry in fillings(inside):
                    if () in entry:
                        moved = {collection + (free,) + path: content for path, content in entry.items()}
                        found.append({**filling, **moved})
    return [document_of(tuple(one.items())) for one in found]


def sample_of_part(scope, part, apart=None):
    """The sample of a document that fits and has at most one unnamed entry."""
    collections, slots, entry_slots = scope
    found = shown(slots, (), (), part, apart)
    for (collection, named, free), inside in zip(collections, entry_slots):
        for key in keys_below(part, collection):
            if key not in named:
                found.update(shown(inside, collection + (key,), collection + (free,), part, apart))
    return document_of(tuple(found.items()))


def shown(slots, start, end, part, apart):
    found = {}
    plain = [slot[0] for slot in slots if slot[1] != "rest"]
    for path, kind, group, tests, pool in slots:
        content = held(part, start + path)
        if kind == "rest":
            if any(path[:-1] + (key,) not in plain for key in keys_below(part, start + path[:-1])):
                found[end + path] = NULL
        elif content is not None and kind == "scalar":
            same = [scalar for scalar in pool if alike(tests, scalar, content)]
            found[end + path] = same[0]
            if apart and group is not None and alike(tests, *apart) and content == max(apart, key=by_scalar):
                found[end + path] = same[1]
        elif content is not None:
            found[end + path] = RECORD if kind == "record" else NULL
    return found

"""The slots to which the places of rules lead, and what the rules do with them.

Here a slot is a pair (home, path). The home 0 is the document, and the home n + 1 is the inside of
the unnamed entries of the collection with the number n. In this order of homes, and for each home
by their paths, slots are told and groups are numbered.
"""

from hookcheck.documents import content_rank
from hookcheck.paths import FIRST_SIGNS, path_rank
from hookcheck.pools import pool_of
from hookcheck.uses import uses_of

TEST_RANKS = {"=": 0, "<": 1, ">": 2}


class Facts:
    """What the rules do with slots."""

    def __init__(self):
        self.led = {}
        self.scalars = {}
        self.made = {}
        self.cleared = {}
        self.ties = {}

    def note_rule(self, rule, context):
        """Note what the rule does in a context, the home and the path of an entry in it."""
        for place, scalar, test in uses_of(rule):
            slot = slot_of(place, context)
            self.led[slot] = True
            if scalar:
                self.scalars[slot] = True
            if test is not None:
                self.made.setdefault(slot, []).append(test)
        for action in rule[2]:
            if action[0] == "remove":
                self.cleared[slot_of(action[1], context)] = True
            if action[0] == "copy":
                self.note_tie(slot_of(action[1], context), slot_of(action[2], context))

    def note_tie(self, first, second):
        """Note that a copy ties the two slots; a slot that is tied with itself is not linked by that."""
        if first != second:
            self.ties.setdefault(first, []).append(second)
            self.ties.setdefault(second, []).append(first)


def facts_of(rules, collections):
    """Return what the rules do with slots."""
    facts = Facts()
    homes = {collection[0]: number + 1 for number, collection in enumerate(collections)}
    for rule in rules:
        contexts = [(0, ())]
        if rule[0] is not None:
            home = homes[rule[0]]
            contexts = [(0, rule[0] + (key,)) for key in collections[home - 1][1]] + [(home, ())]
        for context in contexts:
            facts.note_rule(rule, context)
    return facts


def slot_of(place, context):
    """Return the slot to which the place leads in the context."""
    word, path = place
    home, entry = context
    return (home, entry + path) if word == "entry" else (0, path)


def slots_above(slot):
    """Return the list of the slots above the slot; inside of an entry the entry itself is one of them."""
    home, path = slot
    return [(home, path[:many]) for many in range(1 if home == 0 else 0, len(path))]


def slot_rank(slot):
    """Return what orders slots."""
    return (slot[0], path_rank(slot[1]))


def kinds_of(facts, collections):
    """Return a dict with the kind of each slot."""
    kept = [(0, collection[0]) for collection in collections]
    kinds = {(number + 1, ()): "any" for number in range(len(collections))}
    for slot in facts.led:
        kinds[slot] = "scalar" if slot in facts.scalars else "any"
    for slot in kept:
        kinds[slot] = "record"
    for slot in list(facts.led) + kept:
        for higher in slots_above(slot):
            kinds[higher] = "record"
    rest = rest_slots(kinds, facts.cleared, kept)
    for slot in rest:
        kinds[slot] = "rest"
    return kinds


def rest_slots(kinds, cleared, kept):
    """Return the list of the slots that stand for all other fields of records which a remove may clear."""
    keys = {}
    for home, path in kinds:
        if path:
            keys.setdefault((home, path[:-1]), []).append(path[-1])
    found = []
    for slot in kinds:
        home, path = slot
        at_or_above = [(home, path[:many]) for many in range(len(path) + 1)]
        if kinds[slot] == "record" and slot not in kept and any([higher in cleared for higher in at_or_above]):
            found.append((home, path + (free_letter(keys[slot]),)))
    return found


def free_letter(taken):
    """Return the first letter that is not taken, or "": the scope then has too many samples, whatever the key."""
    free = [letter for letter in FIRST_SIGNS if letter not in taken]
    return free[0] if free else ""


def groups_of(slots, ties):
    """Return a dict with the number of the group of each of the ascending slots that belongs to one."""
    groups = {}
    many = 0
    for slot in slots:
        if slot in ties and slot not in groups:
            spread(slot, many, ties, groups)
            many += 1
    return groups


def spread(slot, number, ties, groups):
    """Give the number to all slots that are linked with the slot, and to the slot itself."""
    waiting = [slot]
    while waiting:
        reached = waiting.pop()
        if reached not in groups:
            groups[reached] = number
            waiting.extend(ties[reached])


def told_slots(facts, kinds):
    """Return the list of the pairs (home, slot as it is told), ascending."""
    slots = sorted(list(kinds), key=slot_rank)
    groups = groups_of(slots, facts.ties)
    shared = {}
    for slot in groups:
        shared.setdefault(groups[slot], []).extend(facts.made.get(slot, []))
    told = []
    for slot in slots:
        home, path = slot
        if kinds[slot] == "scalar":
            group = groups.get(slot, None)
            made = facts.made.get(slot, []) if group is None else shared[group]
            tests = told_tests(made)
            told.append((home, (path, "scalar", group, tests, pool_of(tests, 1 if group is None else 2))))
        else:
            told.append((home, (path, kinds[slot], None, (), ())))
    return told


def told_tests(made):
    """Return the tests as they are told, each once."""
    return tuple(sorted(list({test: True for test in made}), key=told_test_rank))


def told_test_rank(test):
    """Return what orders the tests of a slot."""
    word, bound = test
    return (TEST_RANKS[word], content_rank(bound) if word == "=" else bound)

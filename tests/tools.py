"""What several tests need: short ways to write documents and hooks, random ones, and all small documents."""

import itertools
import random

from hookcheck.documents import compare_documents, nodes, with_scalar
from hookcheck.errors import HookcheckError, ScopeError
from hookcheck.hooks import HookSet
from hookcheck.plans import run
from hookcheck.reader import read_hooks, read_rule
from hookcheck.scopes import count_samples, scope_of

SCOPE_PATHS = [("p",), ("q",), ("p", "a"), ("p", "a", "x"), ("q", "b"), ("r", "p"), ("r", "p", "m"), ("r",)]
SCOPE_COLLECTIONS = [("p",), ("p",), ("r", "p"), ("q",)]
SCOPE_INNER = [(), ("x",), ("y",), ("x", "y")]
VALUES = (None, True, False, 0, 1, 5, 6, "t", "u", "")
KEYS = ("a", "b", "m", "p", "q", "r", "x", "y", "aa")
TEXTS = (
    "when {0} = {2} then set {1} {3}", "when has {0} then remove {1}", "default {0} {2}", "default {0} from {1}",
    "when {0} > {2} then reject no", "remove {0} and default {1} {2}", "when {0} = {2} and not has {1} then set {1} {3}",
)
EACH_TEXTS = (
    "each b when @ = {2} then set @ {3}", "each b when @ = {2} and a = {3} then remove @", "each b default @ from a",
    "each b when @ > {2} then reject no",
)


def value(told):
    """A value from Python's own: None, True, False, numbers, strings, and dicts for records."""
    if told is None:
        return ("null",)
    if told is True or told is False:
        return (str(told).lower(),)
    if isinstance(told, dict):
        return ("record", doc(told))
    return ("number" if isinstance(told, int) else "text", told)


def doc(told):
    """A document from a dict; shorter keys first."""
    return tuple([(key, value(told[key])) for key in sorted(told, key=lambda key: (len(key), key))])


def rules_of(*texts):
    """The rules that are written so."""
    return tuple([read_rule(text) for text in texts])


def hook_of(*texts):
    """A hook called h with these rules."""
    return ("h", rules_of(*texts))


def hooks_of(**rules):
    """Hooks with these names, each with one rule or a tuple of rules."""
    lines = []
    for name, told in rules.items():
        lines.append(f"hook {name}")
        lines.extend([told] if isinstance(told, str) else told)
    return read_hooks(tuple(lines))


def error_of(call, *arguments, **named):
    """The name of the class of the error that the call raises and a tuple of its attributes."""
    try:
        call(*arguments, **named)
    except HookcheckError as error:
        return (error.__class__.__name__, *error.__dict__.values())
    return None


def all_documents(keys, levels, scalars=(None, 1)):
    """All documents over the ascending keys with records of so many levels and these scalars."""
    below = all_documents(keys, levels - 1, scalars) if levels > 1 else [()]
    values = [value(told) for told in scalars] + [("record", inner) for inner in below]
    found = []
    for told in itertools.product([None] + values, repeat=len(keys)):
        found.append(tuple([pair for pair in zip(keys, told) if pair[1] is not None]))
    return found


def nodes_dict(document):
    """The nodes of the document as a dict."""
    return dict(nodes(document))


def first_of(documents):
    """The first one in the order of documents, by comparing them one by one; None of none."""
    best = None
    for document in documents:
        if best is None or compare_documents(document, best) < 0:
            best = document
    return best


class Dice:
    """Random documents, conditions and rules over given paths; the same ones in each run."""

    def __init__(self, seed):
        self.dice = random.Random(seed)

    def one(self, things):
        return self.dice.choice(list(things))

    def chance(self, part):
        return self.dice.random() < part

    def document(self, keys, levels, scalars, full=0.5):
        fields = []
        for key in keys:
            if self.chance(full):
                if levels > 1 and self.chance(0.6):
                    fields.append((key, ("record", self.document(keys, levels - 1, scalars, full))))
                else:
                    fields.append((key, value(self.one(scalars))))
        return tuple(sorted(fields, key=lambda pair: (len(pair[0]), pair[0])))

    def condition(self, places, literals, depth=2):
        if depth > 0 and self.chance(0.4):
            word = self.one(("not", "and", "or"))
            many = 1 if word == "not" else 2
            return (word,) + tuple([self.condition(places, literals, depth - 1) for _ in range(many)])
        word = self.one(("has", "=", "<", ">"))
        place = self.one(places)
        if word == "has":
            return (word, place)
        literal = value(self.one(literals))
        if word == "=":
            return (word, place, literal)
        return (word, place, literal[1] if literal[0] == "number" else 0)

    def action(self, targets, places, literals, rejects=0.05):
        if self.chance(rejects):
            return ("reject", self.one(("bad", "worse")))
        word = self.one(("set", "default", "copy", "remove"))
        target = self.one(targets)
        if word == "remove":
            return (word, target)
        if word == "copy":
            return (word, target, self.one(places))
        return (word, target, value(self.one(literals)))

    def rule(self, paths, collections, inner, literals, rejects=0.05, most=3):
        """A rule over the paths and, for one of the collections, places of entries that lead on by `inner`."""
        places = [("path", path) for path in paths]
        collection = self.one(collections)
        targets = places if collection is None else [("entry", path) for path in inner]
        if collection is not None:
            places = places + targets * 2
        condition = self.condition(places, literals) if self.chance(0.5) else None
        many = self.dice.randint(1, most)
        actions = tuple([self.action(targets, places, literals, rejects) for _ in range(many)])
        return (collection, condition, actions)


def random_scope(dice, many=4):
    """Random rules that have a scope, and the scope."""
    while True:
        things = (SCOPE_PATHS, SCOPE_COLLECTIONS, SCOPE_INNER)
        some = [dice.dice.sample(one, dice.dice.randint(1, 4)) for one in things]
        rules = tuple([
            dice.rule(some[0], some[1] + [None], some[2], (True, 0, 5, "t"), 0.05, 3)
            for _ in range(dice.dice.randint(1, many))
        ])
        try:
            return rules, scope_of(rules)
        except ScopeError:
            continue


def crowded(dice, scope):
    """A random document, often with several unnamed entries of each collection."""
    document = dice.document(KEYS, 4, VALUES, 0.4)
    for collection, _, _ in scope[0]:
        for key in ("b", "c", "d", "ab"):
            if dice.chance(0.6):
                inner = dice.one(((), ("x",), ("y",), ("x", "y"), ("z",)))
                document = with_scalar(document, collection + (key,) + inner, value(dice.one(VALUES)))
    return document


def random_hook_set(dice, most=60, many=4):
    """A random hook set of one to four hooks, called a, b, c and d in any order, with at most so many samples."""
    while True:
        rules, scope = random_scope(dice, many)
        names = dice.dice.sample("abcd", dice.dice.randint(1, 4))
        owners = [dice.one(names) for _ in rules]
        if count_samples(scope) <= most:
            hooks = [(name, tuple([rule for rule, owner in zip(rules, owners) if owner == name])) for name in names]
            try:
                return HookSet(tuple(hooks))
            except ScopeError:
                continue


def random_names(dice, names, most):
    """So many of the names at most, in any order, perhaps some of them twice; none of no names."""
    return tuple([dice.one(names) for _ in range(dice.dice.randint(0, most))]) if names else ()


def random_plan(dice, names):
    """A random plan with these names, often with passes."""
    return (random_names(dice, names, 3), random_names(dice, names, 2), dice.dice.randint(0, 4))


def is_effective(hooks, name, document):
    """Whether the call of the hook rejects or has an effect."""
    ended = run(hooks, ((name,), (), 0), document)
    return ended[0] == "rejected" or ended[5] != ()


def contrary_hooks(dice, texts):
    """A hook set of two to four hooks called f, g, h and i, of one rule each, about the keys a and b."""
    while True:
        hooks = {}
        for name in "fghi"[:dice.dice.randint(2, 4)]:
            keys = [dice.one("ab"), dice.one("ab")]
            hooks[name] = dice.one(texts).format(*keys, dice.one("12"), dice.one("12"))
        if error_of(HookSet, hooks_of(**hooks)) is None:
            return HookSet(hooks_of(**hooks))

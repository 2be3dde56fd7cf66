"""What the points 200 to 205 say, word by word: a desk that makes the changes of its log again for each answer."""

from hookcheck.conditions import breaches
from hookcheck.documents import document_of
from hookcheck.errors import ScopeError
from hookcheck.samples import each_sample
from hookcheck.scopes import scope_of

from tests.model import run_by_words
from tests.tools import nodes_dict


class Refused(Exception):
    """A change is not made: the name of the class of its error and its attributes."""


def rules_of_hooks(hooks):
    return tuple([rule for hook in hooks for rule in hook[1]])


def samples_for(rules):
    """The samples for the rules, or the refusal for want of a scope."""
    try:
        return list(each_sample(scope_of(rules)))
    except ScopeError as error:
        raise Refused("ScopeError", error.reason, error.path) from None


def outcome_for(hooks, plan, document):
    status, now, _, _, _, _ = run_by_words(hooks, plan, nodes_dict(document))
    return document_of(tuple(now.items())) if status == "admitted" else None


def current_of(hooks, plan):
    names = [hook[0] for hook in hooks]
    return (tuple([name for name in plan[0] if name in names]), tuple([name for name in plan[1] if name in names]), plan[2])


def changed(keeps, change):
    """(hooks, plan, claims) behind the change; nothing is asked but the name."""
    hooks, plan, claims = keeps
    names = [hook[0] for hook in hooks]
    left = list(hooks)
    if change[0] == "use":
        return (hooks, change[1], claims)
    if change[0] == "require":
        return (hooks, plan, claims + (change[1],))
    if change[0] == "put":
        if change[1][0] in names:
            left[names.index(change[1][0])] = change[1]
        else:
            left.insert(change[2], change[1])
        return (tuple(left), plan, claims)
    if change[1] not in names:
        raise Refused("UnknownHook", change[1])
    hook = left.pop(names.index(change[1]))
    if change[0] == "move":
        left.insert(change[2], hook)
    return (tuple(left), plan, claims)


def made(keeps, change):
    """(hooks, plan, claims) behind the change and what it tells; Refused if it is not made."""
    behind = changed(keeps, change)
    hooks, plan, claims = behind
    for reason, many, most in (
        ("hooks", len(hooks), 4), ("rules", len(rules_of_hooks(hooks)), 6), ("claims", len(claims), 4),
    ):
        if many > most:
            raise Refused("TooMany", reason)
    samples_for(rules_of_hooks(hooks))
    told = None
    before, after = current_of(keeps[0], keeps[1]), current_of(hooks, plan)
    for sample in reversed(samples_for(rules_of_hooks(keeps[0]) + rules_of_hooks(hooks))):
        if outcome_for(keeps[0], before, sample) != outcome_for(hooks, after, sample):
            told = sample
    for number, claim in enumerate(claims):
        if change[0] != "require" or number == len(claims) - 1:
            for sample in samples_for(rules_of_hooks(hooks) + ((claim[0], claim[1], ()),)):
                end = outcome_for(hooks, after, sample)
                if end is not None and breaches(claim, end):
                    raise Refused("Broken", number, sample)
    return behind, told


class DeskByWords:
    """A desk with a log."""

    def __init__(self, hooks, plan):
        samples_for(rules_of_hooks(hooks))
        self.first = (hooks, plan, ())
        self.log = []

    def keeps(self):
        keeps = self.first
        for change in self.log:
            keeps = changed(keeps, change)
        return keeps

    def make(self, change):
        told = made(self.keeps(), change)[1]
        self.log.append(change)
        return told

    def rehearse(self, changes):
        keeps, found = self.keeps(), []
        for change in changes:
            keeps, told = made(keeps, change)
            found.append(told)
        return tuple(found)

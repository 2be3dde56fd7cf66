"""What rules and hooks do to documents, and the effects that tell it."""

from hookcheck.conditions import entries, holds, leads_to
from hookcheck.documents import RECORD, held, with_scalar, without


def apply_rule(rule, document):
    """Return ("done", result, effects) or ("rejected", reason) for the rule applied to the document."""
    collection, condition, actions = rule
    current = document
    effects = []
    for entry in subjects(collection, condition, document):
        for action in actions:
            if action[0] == "reject":
                return ("rejected", action[1])
            effect = effect_of(action, entry, current, document)
            if effect is not None:
                current = with_effect(current, effect)
                effects.append(effect)
    return ("done", current, tuple(effects))


def subjects(collection, condition, document):
    """Return the list of the entries for which the actions are made; None stands for the document itself."""
    candidates = [None] if collection is None else entries(document, collection)
    return [entry for entry in candidates if condition is None or holds(condition, document, entry=entry)]


def effect_of(action, entry, current, before):
    """Return the effect of the action in the current document, or None; values are copied from the one before."""
    word = action[0]
    path = leads_to(action[1], entry)
    content = held(current, path)
    if word == "remove":
        return None if content is None else (word, path, None, None)
    if word == "set":
        return None if content == action[2] else (word, path, action[2], None)
    if content is not None:
        return None
    if word == "default":
        return (word, path, action[2], None)
    source = leads_to(action[2], entry)
    copied = held(before, source)
    return None if copied is None or copied == RECORD else (word, path, copied, source)


def with_effect(document, effect):
    """Return the document after the effect has been made in it."""
    word, path, scalar, _ = effect
    return without(document, path) if word == "remove" else with_scalar(document, path, scalar)


def call_hook(hook, document):
    """Return ("done", result, effects), with pairs (rule, effect), or ("rejected", rule, reason)."""
    current = document
    effects = []
    for number, rule in enumerate(hook[1]):
        applied = apply_rule(rule, current)
        if applied[0] == "rejected":
            return ("rejected", number, applied[1])
        current = applied[1]
        effects.extend([(number, effect) for effect in applied[2]])
    return ("done", current, tuple(effects))


def replayed(document, effects):
    """Return the document after the effects have been made in it, one after another."""
    current = document
    for effect in effects:
        current = with_effect(current, effect)
    return current

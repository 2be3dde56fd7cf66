"""What the points 32, 65 to 68, 81 to 84, 90 and 91 say, word by word, on dicts of nodes."""

from hookcheck.conditions import entries, holds
from hookcheck.documents import document_of

RECORD = ("record",)


def is_below_or_at(path, other):
    return other[:len(path)] == path


def set_nodes(now, path, scalar):
    """The nodes after the path has been set to the scalar."""
    now = dict(now)
    for many in range(1, len(path)):
        higher = path[:many]
        if now.get(higher) != RECORD:
            now = {other: now[other] for other in now if not is_below_or_at(higher, other)}
            now[higher] = RECORD
    now = {other: now[other] for other in now if not is_below_or_at(path, other)}
    now[path] = scalar
    return now


def remove_nodes(now, path):
    """The nodes after the path has been removed."""
    return {other: now[other] for other in now if not is_below_or_at(path, other)}


def make_effects(now, effects):
    """The nodes after the effects have been made."""
    for word, path, scalar, _ in effects:
        now = remove_nodes(now, path) if word == "remove" else set_nodes(now, path, scalar)
    return now


def path_of(place, entry):
    return place[1] if place[0] == "path" else entry + place[1]


def apply_by_words(rule, before):
    """("done", nodes, effects) or ("rejected", reason) for the rule and nodes."""
    collection, condition, actions = rule
    document = document_of(tuple(before.items()))
    found = (None,) if collection is None else entries(document, collection)
    applied = [entry for entry in found if condition is None or holds(condition, document, entry=entry)]
    rejects = [action[1] for action in actions if action[0] == "reject"]
    if applied and rejects:
        return ("rejected", rejects[0])
    now = dict(before)
    effects = []
    for entry in applied:
        for action in actions:
            path = path_of(action[1], entry)
            effect = None
            if action[0] == "set" and now.get(path) != action[2]:
                effect = ("set", path, action[2], None)
            if action[0] == "default" and path not in now:
                effect = ("default", path, action[2], None)
            if action[0] == "copy" and path not in now:
                source = path_of(action[2], entry)
                if before.get(source, RECORD) != RECORD:
                    effect = ("copy", path, before[source], source)
            if action[0] == "remove" and path in now:
                effect = ("remove", path, None, None)
            if effect is not None:
                effects.append(effect)
                now = make_effects(now, (effect,))
    return ("done", now, tuple(effects))


def call_by_words(hook, before):
    """("done", nodes, effects) with pairs (rule, effect), or ("rejected", rule, reason)."""
    now = before
    effects = []
    for number, rule in enumerate(hook[1]):
        done = apply_by_words(rule, now)
        if done[0] == "rejected":
            return ("rejected", number, done[1])
        now = done[1]
        effects += [(number, effect) for effect in done[2]]
    return ("done", now, tuple(effects))


def run_by_words(hooks, plan, before):
    """What run returns, for nodes and with nodes."""
    by_name = dict([(hook[0], hook) for hook in hooks])
    first, again, limit = plan
    # The calls of the whole run if all passes were made, each with the number of its pass.
    planned = [(0, name) for name in first]
    if again and limit:
        planned += [(number, name) for number in range(1, limit + 1) for name in again]
    now, log, passes, effective = before, [], 0, False
    for calls, (number, name) in enumerate(planned):
        if number != passes:
            if number > 1 and not effective:
                return ("admitted", now, passes, calls, None, tuple(log))
            passes, effective = number, False
        done = call_by_words(by_name[name], now)
        if done[0] == "rejected":
            return ("rejected", now, passes, calls + 1, (calls, name, done[1], done[2]), tuple(log))
        now = done[1]
        effective = effective or done[2] != ()
        log += [(calls, name, rule, effect) for rule, effect in done[2]]
    status = "unsettled" if passes and effective else "admitted"
    return (status, now, passes, len(planned), None, tuple(log))


def origin_by_words(log, path):
    """The origin of the path by the log."""
    giving = [at for at, entry in enumerate(log) if entry[3][1] == path and entry[3][0] != "remove"]
    if not giving:
        return ("field", path)
    call, _, rule, effect = log[giving[-1]]
    if effect[0] in ("set", "default"):
        return ("literal", call)
    before = 0
    while (log[before][0], log[before][2]) != (call, rule):
        before += 1
    return origin_by_words(log[:before], effect[3])

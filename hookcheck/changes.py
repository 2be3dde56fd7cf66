"""Changes of a desk. What a desk keeps is told as (hook set, plan, claims), a stand."""

from hookcheck.errors import Broken, TooMany
from hookcheck.hooks import HookSet
from hookcheck.plans import refuse_unknown
from hookcheck.questions import compare_plans, find_violation

MOST_HOOKS = 4
MOST_RULES = 6
MOST_CLAIMS = 4


def current_plan(hook_set, plan):
    """Return the plan with the names left out that no hook has."""
    first, again, limit = plan
    return (known_names(hook_set, first), known_names(hook_set, again), limit)


def known_names(hook_set, names):
    """Return the names that hooks have."""
    return tuple([name for name in names if name in hook_set.names])


def make_change(stand, change):
    """Return (stand behind the change, what the change tells); raise what is due."""
    hook_set, plan, claims = stand
    hooks = hooks_behind(hook_set.hooks, change)
    if change[0] == "require":
        claims = claims + (change[1],)
    refuse_too_many(hooks, claims)
    behind = HookSet(hooks)
    before = current_plan(hook_set, plan)
    if change[0] == "use":
        plan = change[1]
    after = current_plan(behind, plan)
    told = compare_plans(hook_set, before, behind, after)
    # Behind a "require" all claims but the new one hold as before, so only the new one can be in the way.
    refuse_broken(behind, after, claims)
    return ((behind, plan, claims), told)


def hooks_behind(hooks, change):
    """Return the hooks behind the change."""
    if change[0] == "put":
        return with_hook(hooks, change[1], change[2])
    if change[0] == "drop":
        refuse_unknown(hooks, (change[1],))
        return others(hooks, change[1])
    if change[0] == "move":
        refuse_unknown(hooks, (change[1],))
        hook = [hook for hook in hooks if hook[0] == change[1]][0]
        return with_hook(others(hooks, change[1]), hook, change[2])
    return hooks


def others(hooks, name):
    """Return the hooks that do not have the name."""
    return tuple([hook for hook in hooks if hook[0] != name])


def with_hook(hooks, hook, place):
    """Return the hooks with the hook instead of the one with its name, or if there is none, at the place."""
    if hook[0] in [other[0] for other in hooks]:
        return tuple([hook if other[0] == hook[0] else other for other in hooks])
    return hooks[:place] + (hook,) + hooks[place:]


def refuse_too_many(hooks, claims):
    """Raise TooMany if there are too many hooks, rules or claims."""
    if len(hooks) > MOST_HOOKS:
        raise TooMany("hooks")
    if sum([len(hook[1]) for hook in hooks]) > MOST_RULES:
        raise TooMany("rules")
    if len(claims) > MOST_CLAIMS:
        raise TooMany("claims")


def refuse_broken(hook_set, plan, claims):
    """Raise Broken for the first claim that the plan violates."""
    for number, claim in enumerate(claims):
        document = find_violation(hook_set, plan, claim)
        if document is not None:
            raise Broken(number, document)

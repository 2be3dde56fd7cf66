"""Questions about what plans do to all documents, answered on the samples."""

from hookcheck.conditions import breaches
from hookcheck.plans import outcome, refuse_unknown, run
from hookcheck.samples import each_sample
from hookcheck.scopes import scope_of


def compare_plans(hook_set, plan, other_set, other_plan):
    """Return the first document for which the two plans differ, each with its hook set, or None."""
    found = list_differences(hook_set, plan, other_set, other_plan, 1)
    return found[0] if found else None


def list_differences(hook_set, plan, other_set, other_plan, many):
    """Return the first so many samples of the scope of both hook sets for which the two plans differ."""
    refuse_unknown(hook_set.hooks, plan[0] + plan[1])
    refuse_unknown(other_set.hooks, other_plan[0] + other_plan[1])
    scope = scope_of(hook_set.rules + other_set.rules)
    found = []
    for sample in each_sample(scope):
        if len(found) == many:
            break
        if outcome(hook_set.hooks, plan, sample) != outcome(other_set.hooks, other_plan, sample):
            found.append(sample)
    return tuple(found)


def find_violation(hook_set, plan, claim):
    """Return the first document with which the plan violates the claim, or None."""
    refuse_unknown(hook_set.hooks, plan[0] + plan[1])
    collection, condition = claim
    scope = scope_of(hook_set.rules + ((collection, condition, ()),))
    for sample in each_sample(scope):
        end = outcome(hook_set.hooks, plan, sample)
        if end is not None and breaches(claim, end) != ():
            return sample
    return None


def count_passes(hook_set, plan):
    """Return (most, document, unsettled): the most passes of admitted documents and the first document with them.

    The last one is the first document that is left unsettled. What there is not is None.
    """
    most = None
    document = None
    unsettled = None
    for sample in hook_set.samples:
        status, _, passes, _, _, _ = run(hook_set.hooks, plan, sample)
        if status == "admitted" and (most is None or passes > most):
            most = passes
            document = sample
        if status == "unsettled" and unsettled is None:
            unsettled = sample
    return (most, document, unsettled)


def first_acts(hook_set, plan):
    """Return (hook, rule, document) for all rules of the plan, with the first document in whose run the rule acts."""
    found = {}
    for sample in hook_set.samples:
        for rule in acting(run(hook_set.hooks, plan, sample)):
            found.setdefault(rule, sample)
    return tuple([(name, number, found.get((name, number))) for name, number in numbered_rules(hook_set, plan)])


def acting(ended):
    """Return the list of (hook, rule) for what acts in the run; it may tell a rule several times."""
    _, _, _, _, rejection, log = ended
    rejecting = [] if rejection is None else [rejection]
    return [(entry[1], entry[2]) for entry in list(log) + rejecting]


def numbered_rules(hook_set, plan):
    """Return the list of (hook, rule) of the rules of the plan."""
    called = plan[0] + plan[1]
    return [(hook[0], number) for hook in hook_set.hooks if hook[0] in called for number in range(len(hook[1]))]


def find_idle(hook_set, plan):
    """Return the pairs (hook, rule) of the rules of the plan that act in no run."""
    return tuple([(name, number) for name, number, document in first_acts(hook_set, plan) if document is None])

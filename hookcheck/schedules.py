"""Schedules of calls of units: where they lead from a document, and conflicts and fights of hook sets."""

from hookcheck.graphs import table_conflict, table_fight
from hookcheck.plans import call_unit, refuse_unknown
from hookcheck.tables import call_table, numbers_of


def follow(hooks, units, document, schedule):
    """Return ("end", end) or ("open", document) for where the schedule leads, or None if it is none."""
    refuse_unknown(hooks, [name for unit in units for name in unit])
    reached = document
    for number in schedule:
        if reached is None or number >= len(units):
            return None
        effective, reached = called(hooks, units[number], reached)
        if not effective:
            return None
    ends = reached is None or not any([called(hooks, unit, reached)[0] for unit in units])
    return ("end" if ends else "open", reached)


def called(hooks, unit, document):
    """Return (whether the call of the unit is effective, its result or None if it rejects)."""
    answer = call_unit(hooks, unit, document)
    return (True, None) if answer[0] == "rejected" else (answer[2], answer[1])


def find_conflict(hook_set, units):
    """Return (document, (schedule, end), (schedule, end)) for the first document with a conflict, or None."""
    found = table_conflict(call_table(hook_set, units))
    if found is None:
        return None
    state, one, other = found
    return (hook_set.samples[state], told_end(hook_set, one), told_end(hook_set, other))


def told_end(hook_set, pair):
    """Return the pair (schedule, end) of the call table with a document, or None, for its end."""
    schedule, end = pair
    return (schedule, None if end == "out" else hook_set.samples[end])


def find_fight(hook_set, units):
    """Return (document, schedule) for the first of the shortest schedules that lead back, or None."""
    found = table_fight(call_table(hook_set, units))
    return None if found is None else (hook_set.samples[found[0]], found[1])


def call_bound(hook_set, ranks, document):
    """Return the sum of the ranks of the numbers of the document."""
    return sum([ranks[number] for number in numbers_of(hook_set, document)])

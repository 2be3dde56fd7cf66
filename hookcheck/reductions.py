"""Fewer hooks, shorter calls, and which hooks to call again, for the same outcomes of all documents.

All but the first answer are found on the call table with one unit for each hook: a place in its rows stands
for the hook with this number.
"""

from hookcheck.plans import refuse_unknown
from hookcheck.tables import call_table, outcome_row
from hookcheck.walks import walk


def same_outcomes(hook_set, plan, other):
    """Tell whether the two plans have the same outcome for every document."""
    return outcome_row(hook_set, plan) == outcome_row(hook_set, other)


def hook_table(hook_set):
    """Return the call table with one unit for each hook."""
    return call_table(hook_set, tuple([(name,) for name in hook_set.names]))


def places_of(hook_set, names):
    """Return the numbers of the hooks with the names."""
    return tuple([hook_set.names.index(name) for name in names])


def names_at(hook_set, places):
    """Return the names of the hooks with the numbers."""
    return tuple([hook_set.names[place] for place in places])


def ends_of(table, plan):
    """Return for each state, in a list, its state at the end if the plan of the table admits it, otherwise None."""
    walks = [walk(table, plan, state) for state in range(len(table))]
    return [end if status == "admitted" else None for status, end, _, _ in walks]


def least_set(hook_set, plan):
    """Return the first set of names of the plan that alone has the same outcomes."""
    refuse_unknown(hook_set.hooks, plan[0] + plan[1])
    table = hook_table(hook_set)
    first = places_of(hook_set, plan[0])
    again = places_of(hook_set, plan[1])
    wanted = ends_of(table, (first, again, plan[2]))
    alike = [
        chosen for chosen in sets_of(first + again)
        if ends_of(table, (kept(first, chosen), kept(again, chosen), plan[2])) == wanted
    ]
    # All names together always have the same outcomes.
    return names_at(hook_set, alike[0])


def kept(places, chosen):
    """Return the places that are among the chosen ones."""
    return tuple([place for place in places if place in chosen])


def sets_of(places):
    """Return the list of all sets of the places, ascending; a place may be told several times."""
    among = sorted({place: True for place in places})
    found = []
    longer = [()]
    while longer:
        found.extend(longer)
        longer = [chosen + (place,) for chosen in longer for place in among if not chosen or place > chosen[-1]]
    return found


def shortest_calls(hook_set, plan, most):
    """Return the first sequence of at most so many names whose calls have the same outcomes, or None."""
    refuse_unknown(hook_set.hooks, plan[0] + plan[1])
    table = hook_table(hook_set)
    wanted = ends_of(table, (places_of(hook_set, plan[0]), places_of(hook_set, plan[1]), plan[2]))
    sequences = [()]
    for _ in range(most + 1):
        for sequence in sequences:
            if ends_of(table, (sequence, (), 0)) == wanted:
                return names_at(hook_set, sequence)
        sequences = [shorter + (place,) for shorter in sequences for place in range(len(hook_set))]
    return None


def first_restless(hook_set, names, again, limit):
    """Return the first document that is restless if names are called first and others again, or None."""
    refuse_unknown(hook_set.hooks, names + again)
    plan = (places_of(hook_set, names), places_of(hook_set, again), limit)
    state = restless_state(hook_table(hook_set), plan)
    return None if state is None else hook_set.samples[state]


def restless_state(table, plan):
    """Return the first state that is restless with the plan of the table, or None."""
    for state in range(len(table)):
        status, end, _, _ = walk(table, plan, state)
        if status == "unsettled":
            return state
        if status == "admitted" and any([table[end][place] is not None for place in plan[0]]):
            return state
    return None


def call_again(hook_set, names, limit):
    """Return the first set of the names with which, called again, no document is restless, or None."""
    refuse_unknown(hook_set.hooks, names)
    table = hook_table(hook_set)
    first = places_of(hook_set, names)
    for chosen in sets_of(first):
        if restless_state(table, (first, chosen, limit)) is None:
            return names_at(hook_set, chosen)
    return None

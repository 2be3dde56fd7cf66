"""What calls and plans do, told as numbers of samples."""

from hookcheck.plans import call_unit, outcome, refuse_unknown
from hookcheck.samples import samples_of


def call_table(hook_set, units):
    """Return for each sample, in order, the row of the moves of the units."""
    refuse_unknown(hook_set.hooks, [name for unit in units for name in unit])
    return tuple([tuple([move_of(hook_set, unit, sample) for unit in units]) for sample in hook_set.samples])


def move_of(hook_set, unit, sample):
    """Return None for a call of the unit without an effect, "out" if it rejects, else the number of its result."""
    answer = call_unit(hook_set.hooks, unit, sample)
    if answer[0] == "rejected":
        return "out"
    return hook_set.samples.index(answer[1]) if answer[2] else None


def outcome_row(hook_set, plan):
    """Return for each sample, in order, the number of its outcome, or None without one."""
    ends = [outcome(hook_set.hooks, plan, sample) for sample in hook_set.samples]
    return tuple([None if end is None else hook_set.samples.index(end) for end in ends])


def numbers_of(hook_set, document):
    """Return the numbers of the samples of the document, in the order of its parts."""
    return tuple([hook_set.samples.index(sample) for sample in samples_of(hook_set.scope, document)])

"""Hook sets: hooks whose rules have a scope."""

from hookcheck.parts import refuse_misfit
from hookcheck.plans import refuse_unknown, run
from hookcheck.samples import each_sample
from hookcheck.scopes import scope_of


class HookSet:
    """Hooks with the scope of all their rules and its samples; it never changes."""

    def __init__(self, hooks):
        self._hooks = hooks
        self._names = tuple([hook[0] for hook in hooks])
        self._rules = tuple([rule for hook in hooks for rule in hook[1]])
        self._scope = scope_of(self._rules)
        self._samples = tuple(each_sample(self._scope))

    @property
    def hooks(self):
        """The hooks."""
        return self._hooks

    @property
    def names(self):
        """The names of the hooks, in order."""
        return self._names

    @property
    def rules(self):
        """The rules of all hooks, in order."""
        return self._rules

    @property
    def scope(self):
        """The scope of the rules."""
        return self._scope

    @property
    def samples(self):
        """All samples of the scope, ascending."""
        return self._samples

    def hook(self, name):
        """Return the hook with the name."""
        refuse_unknown(self._hooks, (name,))
        return self._hooks[self._names.index(name)]

    def check(self, document):
        """Raise Misfit if the document does not fit."""
        refuse_misfit(self._scope, document)

    def run(self, plan, document):
        """Return (status, document at the end, passes, calls, rejection, log) of the plan run on the document."""
        refuse_unknown(self._hooks, plan[0] + plan[1])
        self.check(document)
        return run(self._hooks, plan, document)

    def __len__(self):
        return len(self._hooks)

    def __iter__(self):
        return iter(self._hooks)

    def __contains__(self, name):
        return name in self._names

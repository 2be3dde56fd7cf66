"""Desks: hooks, a plan and claims that stay true whatever is changed."""

from hookcheck.changes import current_plan, make_change
from hookcheck.errors import NothingToUndo
from hookcheck.hooks import HookSet


class Desk:
    """Hooks, a plan and claims, with the changes that were made and not taken back."""

    def __init__(self, hooks, plan):
        # The stand before each change of the log, and the present one as the last.
        self._stands = [(HookSet(hooks), plan, ())]
        self._changes = []

    @property
    def hooks(self):
        """The hooks."""
        return self._stands[-1][0].hooks

    @property
    def plan(self):
        """The plan, with names that no hook has."""
        return self._stands[-1][1]

    @property
    def current(self):
        """The plan without names that no hook has."""
        return current_plan(self._stands[-1][0], self._stands[-1][1])

    @property
    def claims(self):
        """The claims."""
        return self._stands[-1][2]

    @property
    def hook_set(self):
        """A hook set of the hooks."""
        return self._stands[-1][0]

    @property
    def log(self):
        """The changes that were made and not taken back, in order."""
        return tuple(self._changes)

    def put(self, hook, place):
        """Put the hook in the place of the one with its name, or at the place; return what this tells."""
        return self._make(("put", hook, place))

    def drop(self, name):
        """Take out the hook with the name; return what this tells."""
        return self._make(("drop", name))

    def move(self, name, place):
        """Move the hook with the name to the place among the others; return what this tells."""
        return self._make(("move", name, place))

    def use(self, plan):
        """Replace the plan; return what this tells."""
        return self._make(("use", plan))

    def require(self, claim):
        """Add the claim; return what this tells."""
        return self._make(("require", claim))

    def _make(self, change):
        stand, told = make_change(self._stands[-1], change)
        self._stands.append(stand)
        self._changes.append(change)
        return told

    def undo(self):
        """Take the last change back and return it."""
        if not self._changes:
            raise NothingToUndo("there is no change to undo")
        self._stands.pop()
        return self._changes.pop()

    def rehearse(self, changes):
        """Return what the changes would tell, one after another."""
        stand = self._stands[-1]
        found = []
        for change in changes:
            stand, told = make_change(stand, change)
            found.append(told)
        return tuple(found)

    @classmethod
    def replayed(cls, hooks, plan, log):
        """Return a new desk on which the changes of the log have been made."""
        desk = cls(hooks, plan)
        for change in log:
            desk._make(change)
        return desk

    def __len__(self):
        return len(self._changes)

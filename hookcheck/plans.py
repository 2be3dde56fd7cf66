"""Calls of units and runs of plans."""

from hookcheck.calls import call_hook
from hookcheck.errors import UnknownHook


class Course:
    """The calls that are made one after another, up to one that rejects."""

    def __init__(self, hooks, document):
        self.by_name = {hook[0]: hook for hook in hooks}
        self.reached = document
        self.calls = 0
        self.rejection = None
        self.told = []

    def make(self, names):
        """Call the hooks with the names, up to one that rejects, and tell whether a call has an effect."""
        before = len(self.told)
        for name in names:
            answer = call_hook(self.by_name[name], self.reached)
            number = self.calls
            self.calls = number + 1
            if answer[0] == "rejected":
                self.rejection = (number, name, answer[1], answer[2])
                break
            self.reached = answer[1]
            self.told.extend([(number, name, rule, effect) for rule, effect in answer[2]])
        return len(self.told) > before


def refuse_unknown(hooks, wanted):
    """Raise UnknownHook for the first of the wanted names that no hook has."""
    known = [hook[0] for hook in hooks]
    for name in wanted:
        if name not in known:
            raise UnknownHook(name)


def call_unit(hooks, unit, document):
    """Return ("done", result, effective) or ("rejected", place) for a call of the unit on the document."""
    refuse_unknown(hooks, unit)
    course = Course(hooks, document)
    effective = course.make(unit)
    if course.rejection is not None:
        return ("rejected", course.rejection[0])
    return ("done", course.reached, effective)


def run(hooks, plan, document):
    """Return (status, document at the end, passes, calls, rejection, log) of the plan run on the document."""
    first, again, limit = plan
    refuse_unknown(hooks, first + again)
    course = Course(hooks, document)
    course.make(first)
    passes = 0
    going = again != ()
    while going and passes < limit and course.rejection is None:
        passes += 1
        going = course.make(again)
    # Passes that go on although as many were made as the limit tells are those of an unsettled document.
    status = "unsettled" if going and passes > 0 else "admitted"
    if course.rejection is not None:
        status = "rejected"
    return (status, course.reached, passes, course.calls, course.rejection, tuple(course.told))


def outcome(hooks, plan, document):
    """Return the document at the end if the plan admits the document, otherwise None."""
    ended = run(hooks, plan, document)
    return ended[1] if ended[0] == "admitted" else None

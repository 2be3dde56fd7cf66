"""The errors of the package; every attribute is passed to the class in the order that its docstring tells."""


class HookcheckError(ValueError):
    """The base class of all errors."""


class NodesError(HookcheckError):
    """No document has the given nodes: the reason, "twice" or "above", and the path that counts."""

    def __init__(self, reason, path):
        super().__init__(f"no document has these nodes: {reason} at {path}")
        self.reason = reason
        self.path = path


class ReadError(HookcheckError):
    """A line or a single string cannot be read: the number of the line, the reason, the token or None."""

    def __init__(self, line, reason, token):
        super().__init__(f"line {line} cannot be read: {reason}, token {token}")
        self.line = line
        self.reason = reason
        self.token = token


class UnknownHook(HookcheckError):
    """No hook has the name."""

    def __init__(self, name):
        super().__init__(f"no hook is called {name}")
        self.name = name


class ScopeError(HookcheckError):
    """Rules have no scope: the reason, "overlap", "kinds" or "samples", and the path that counts."""

    def __init__(self, reason, path):
        super().__init__(f"the rules have no scope: {reason} at {path}")
        self.reason = reason
        self.path = path


class Misfit(HookcheckError):
    """A document does not fit: the kind of the slot and its path in the document."""

    def __init__(self, kind, path):
        super().__init__(f"the document does not fit: no {kind} at {path}")
        self.kind = kind
        self.path = path


class NotParts(HookcheckError):
    """Documents cannot be joined: the number of the first one that cannot."""

    def __init__(self, number):
        super().__init__(f"document {number} cannot be joined with the ones before it")
        self.number = number


class NotSamples(HookcheckError):
    """No document has these samples: the number of the first one that is in the way."""

    def __init__(self, number):
        super().__init__(f"no document has these samples, because of number {number}")
        self.number = number


class TooMany(HookcheckError):
    """A change would leave too many things: the reason, "hooks", "rules" or "claims"."""

    def __init__(self, reason):
        super().__init__(f"there would be too many {reason}")
        self.reason = reason


class Broken(HookcheckError):
    """A change would break a claim: the number of the claim and the first document with which it is violated."""

    def __init__(self, claim, document):
        super().__init__(f"claim {claim} would be violated with {document}")
        self.claim = claim
        self.document = document


class NothingToUndo(HookcheckError):
    """The log of the desk is empty."""

"""Where the scalars of an admitted document come from."""

from hookcheck.documents import RECORD, nodes
from hookcheck.plans import run


def origin_of(log, path):
    """Return the origin of the path by the log: ("field", path) or ("literal", call)."""
    current = path
    number = last_gift(log, current)
    while number is not None:
        call, _, rule, effect = log[number]
        if effect[0] != "copy":
            return ("literal", call)
        current = effect[3]
        number = last_gift(log[:start_of(log, call, rule)], current)
    return ("field", current)


def last_gift(log, path):
    """Return the number of the last entry of the log that gives a value to the path, or None."""
    for number, entry in reversed(list(enumerate(log))):
        word, target, _, _ = entry[3]
        if target == path and word != "remove":
            return number
    return None


def start_of(log, call, rule):
    """Return the number of the first entry with this call and this rule; the log has one."""
    return [(entry[0], entry[2]) for entry in log].index((call, rule))


def origins(hooks, plan, document):
    """Return (path, origin, written) for each path that holds a scalar in the outcome; None without an outcome."""
    status, end, _, _, _, log = run(hooks, plan, document)
    if status != "admitted":
        return None
    paths = [path for path, content in nodes(end) if content != RECORD]
    return tuple([(path, origin_of(log, path), last_writer(log, path)) for path in paths])


def last_writer(log, path):
    """Return the number of the call that has last written the path, or None."""
    number = last_gift(log, path)
    return None if number is None else log[number][0]

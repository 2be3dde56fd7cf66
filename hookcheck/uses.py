"""What rules name, and for what they use the places of their conditions and actions."""


def atoms_of(condition):
    """Return the list of the atoms of the condition, which may be None."""
    if condition is None:
        return []
    if condition[0] in ("not", "and", "or"):
        return [atom for inner in condition[1:] for atom in atoms_of(inner)]
    return [condition]


def uses_of(rule):
    """Return the list of (place, scalar, test): whether the use is one as a scalar, and the test it makes or None."""
    _, condition, actions = rule
    uses = [use_of_atom(atom) for atom in atoms_of(condition)]
    for action in actions:
        uses.extend(uses_of_action(action))
    return uses


def use_of_atom(atom):
    """Return the use of the place of the atom."""
    if atom[0] == "has":
        return (atom[1], False, None)
    return (atom[1], True, (atom[0], atom[2]))


def uses_of_action(action):
    """Return the list of the uses of the places of the action."""
    word = action[0]
    if word == "reject":
        return []
    if word == "remove":
        return [(action[1], False, None)]
    if word == "copy":
        return [(action[1], True, None), (action[2], True, None)]
    return [(action[1], True, ("=", action[2]))]


def named_paths(rule):
    """Return the list of the paths that the rule names."""
    collection = [] if rule[0] is None else [rule[0]]
    return collection + [place[1] for place, _, _ in uses_of(rule) if place[0] == "path"]

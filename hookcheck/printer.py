"""The printed form of rules, claims and hooks."""

from hookcheck.paths import show_path


def show_rule(rule):
    """Return the printed form of the rule."""
    collection, condition, actions = rule
    parts = show_collection(collection)
    if condition is not None:
        parts.append(f"when {show_condition(condition)} then")
    parts.append(" and ".join([show_action(action) for action in actions]))
    return " ".join(parts)


def show_claim(claim):
    """Return the printed form of the claim."""
    collection, condition = claim
    return " ".join(show_collection(collection) + [show_condition(condition)])


def show_hooks(hooks):
    """Return the printed form of the hooks, a tuple of lines."""
    lines = []
    for name, rules in hooks:
        lines.append(f"hook {name}")
        lines.extend([f"  {show_rule(rule)}" for rule in rules])
    return tuple(lines)


def show_collection(collection):
    """Return the list of what the printed form begins with for the collection."""
    return [] if collection is None else [f"each {show_path(collection)}"]


def show_action(action):
    """Return the tokens of the action, joined."""
    word = action[0]
    if word == "reject":
        return f"reject {action[1]}"
    target = show_place(action[1])
    if word == "remove":
        return f"remove {target}"
    if word == "copy":
        return f"default {target} from {show_place(action[2])}"
    return f"{word} {target} {show_literal(action[2])}"


def show_condition(condition):
    """Return the tokens of the condition, joined, with only the needed parentheses."""
    word = condition[0]
    if word == "not":
        return f"not {show_operand(condition[1])}"
    if word == "and":
        return f"{show_operand(condition[1])} and {show_conjunct(condition[2])}"
    if word == "or":
        return f"{show_conjunct(condition[1])} or {show_condition(condition[2])}"
    return show_atom(condition)


def show_operand(condition):
    """Return the tokens of the condition as an operand."""
    if condition[0] in ("and", "or"):
        return f"( {show_condition(condition)} )"
    return show_condition(condition)


def show_conjunct(condition):
    """Return the tokens of the condition as a conjunct."""
    if condition[0] == "or":
        return f"( {show_condition(condition)} )"
    return show_condition(condition)


def show_atom(atom):
    """Return the tokens of the atom, joined."""
    place = show_place(atom[1])
    if atom[0] == "has":
        return f"has {place}"
    if atom[0] == "=":
        return f"{place} = {show_literal(atom[2])}"
    return f"{place} {atom[0]} {atom[2]}"


def show_place(place):
    """Return the token of the place."""
    word, path = place
    if word == "path":
        return show_path(path)
    return f"@.{show_path(path)}" if path else "@"


def show_literal(literal):
    """Return the token of the literal."""
    if literal[0] == "number":
        return str(literal[1])
    if literal[0] == "text":
        return f'"{literal[1]}"'
    return literal[0]

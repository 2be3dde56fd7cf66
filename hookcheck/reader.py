"""Reading hooks, rules and claims, by descent through the grammar."""

from hookcheck.errors import ReadError
from hookcheck.tokens import (
    read_collection, read_integer, read_literal, read_name, read_place, read_reason, read_target, tokens_of,
)

MOST_TOKENS = 30
MOST_HOOKS = 4
MOST_RULES = 6


class TokenRow:
    """The tokens of a line or of a single string, taken one after another.

    Whatever has been taken can be completed to something of the grammar. So the token at which
    taking fails is the first one that no line of the grammar has there.
    """

    def __init__(self, tokens, line):
        self.tokens = tokens
        self.line = line
        self.at = 0
        self.each = tokens[:1] == ("each",)

    def ahead(self):
        """Return the token that comes next; at the end the empty string, which is no token."""
        return self.tokens[self.at] if self.at < len(self.tokens) else ""

    def refuse(self):
        """Raise the error that is due for the token that comes next, or for the end."""
        if self.at < len(self.tokens):
            raise ReadError(self.line, "unexpected", self.at)
        raise ReadError(self.line, "end", None)

    def taken(self, denoted):
        """Step over the next token, which denotes what is passed; None refuses it."""
        if denoted is None:
            self.refuse()
        self.at += 1
        return denoted

    def word(self, words):
        """Step over the next token, which has to be one of the words, and return it."""
        return self.taken(self.ahead() if self.ahead() in words else None)

    def skips(self, word):
        """Step over the next token if it is the word, and tell whether it is."""
        if self.ahead() != word:
            return False
        self.at += 1
        return True

    def finish(self):
        """Refuse a token that is left."""
        if self.at < len(self.tokens):
            self.refuse()


def read_hooks(lines):
    """Return the hooks that the lines denote."""
    names = []
    rules = []
    for line, text in enumerate(lines):
        tokens = tokens_of(text)
        if tokens == () or tokens[0].startswith("#"):
            continue
        row = row_of(tokens, line)
        if row.skips("hook"):
            names.append(take_new_name(row, names))
            rules.append([])
        elif not names:
            row.refuse()
        else:
            rules[-1].append(take_new_rule(row, sum([len(told) for told in rules])))
    return tuple([(name, tuple(told)) for name, told in zip(names, rules)])


def read_rule(text):
    """Return the rule that a single string denotes."""
    return take_rule(row_of(tokens_of(text), 0))


def read_claim(text):
    """Return the claim that a single string denotes."""
    row = row_of(tokens_of(text), 0)
    collection = take_collection(row)
    condition = take_condition(row)
    row.finish()
    return (collection, condition)


def row_of(tokens, line):
    """Return the row of the tokens, of which there must not be too many."""
    if len(tokens) > MOST_TOKENS:
        raise ReadError(line, "many", None)
    return TokenRow(tokens, line)


def take_new_name(row, names):
    """Return the name behind `hook`; `names` are those of the earlier hooks."""
    name = row.taken(read_name(row.ahead()))
    row.finish()
    if name in names:
        raise ReadError(row.line, "duplicate", None)
    if len(names) == MOST_HOOKS:
        raise ReadError(row.line, "hooks", None)
    return name


def take_new_rule(row, many):
    """Return the rule of a line that has so many rules before it."""
    rule = take_rule(row)
    if many == MOST_RULES:
        raise ReadError(row.line, "rules", None)
    return rule


def take_rule(row):
    """Return the rule that all tokens of the row are."""
    collection = take_collection(row)
    condition = None
    if row.skips("when"):
        condition = take_condition(row)
        row.word(("then",))
    actions = [take_action(row)]
    while row.skips("and"):
        actions.append(take_action(row))
    row.finish()
    return (collection, condition, tuple(actions))


def take_collection(row):
    """Return the path behind `each`, or None if there is no `each`."""
    if not row.skips("each"):
        return None
    return row.taken(read_collection(row.ahead()))


def take_action(row):
    """Return the action that comes next."""
    word = row.word(("set", "default", "remove", "reject"))
    if word == "reject":
        return (word, row.taken(read_reason(row.ahead())))
    target = row.taken(read_target(row.ahead(), row.each))
    if word == "remove":
        return (word, target)
    if word == "default" and row.skips("from"):
        return ("copy", target, take_place(row))
    return (word, target, row.taken(read_literal(row.ahead())))


def take_place(row):
    """Return the place that comes next."""
    return row.taken(read_place(row.ahead(), row.each))


def take_condition(row):
    """Return the condition that comes next, grouped from the right."""
    conjunct = take_conjunct(row)
    if row.skips("or"):
        return ("or", conjunct, take_condition(row))
    return conjunct


def take_conjunct(row):
    """Return the conjunct that comes next, grouped from the right."""
    operand = take_operand(row)
    if row.skips("and"):
        return ("and", operand, take_conjunct(row))
    return operand


def take_operand(row):
    """Return the operand that comes next, without the parentheses around it."""
    if row.skips("not"):
        return ("not", take_operand(row))
    if row.skips("("):
        condition = take_condition(row)
        row.word((")",))
        return condition
    if row.skips("has"):
        return ("has", take_place(row))
    return take_comparison(row)


def take_comparison(row):
    """Return the comparison that comes next."""
    place = take_place(row)
    sign = row.word(("=", "<", ">"))
    if sign == "=":
        return (sign, place, row.taken(read_literal(row.ahead())))
    return (sign, place, row.taken(read_integer(row.ahead())))

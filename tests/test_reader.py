"""Points 40 to 42 and 44 to 48: the hook language and its errors."""

import functools
import itertools
import re
import unittest

from hookcheck.errors import ReadError
from hookcheck.printer import show_claim, show_rule
from hookcheck.reader import read_claim, read_hooks, read_rule
from hookcheck.tokens import tokens_of

RESERVED = "hook each when then and or not has set default from remove reject true false".split()
KEY = "[a-z][a-zA-Z0-9-]{0,15}"
# The grammar of point 44, written out; small letters are tokens of many spellings.
GRAMMAR = {
    "LINE": ["hook name", "RULE"],
    "RULE": ["ACTIONS", "when CONDITION then ACTIONS", "each path ACTIONS", "each path when CONDITION then ACTIONS"],
    "ACTIONS": ["ACTION", "ACTION and ACTIONS"],
    "ACTION": [
        "set target literal", "default target literal", "default target from place", "remove target", "reject reason",
    ],
    "CONDITION": ["CONJUNCT", "CONJUNCT or CONDITION"],
    "CONJUNCT": ["OPERAND", "OPERAND and CONJUNCT"],
    "OPERAND": [
        "not OPERAND", "( CONDITION )", "has place", "place = literal", "place < integer", "place > integer",
    ],
    "CLAIM": ["CONDITION", "each path CONDITION"],
}
INTEGER = "0|-?[1-9][0-9]{0,5}"
TEXT = '"[^" ]{1,30}"'
ENTRY = f"@(\\.{KEY}){{0,2}}"


@functools.cache
def is_token(word, token, each):
    """Whether the token may stand for the small-letter word, a kind of token or a word of the grammar."""
    short = re.fullmatch(f"{KEY}(\\.{KEY})?", token) and token not in RESERVED
    long = re.fullmatch(f"{KEY}(\\.{KEY}){{0,3}}", token) and token not in RESERVED
    entry = each and re.fullmatch(ENTRY, token)
    kinds = {
        "name": re.fullmatch(KEY, token),
        "path": short,
        "place": long or entry,
        "target": entry if each else long,
        "literal": re.fullmatch(f"true|false|{INTEGER}|{TEXT}", token),
        "integer": re.fullmatch(INTEGER, token),
        "reason": re.fullmatch("[a-zA-Z0-9-]{1,30}", token),
    }
    return bool(kinds[word]) if word in kinds else token == word


@functools.cache
def starts(word):
    """All that the word may stand for, as tuples with no capital word at the beginning."""
    if word not in GRAMMAR:
        return ((word,),)
    return tuple([
        first + tuple(told.split()[1:]) for told in GRAMMAR[word] for first in starts(told.split()[0])
    ])


def fault(start, text):
    """The reason and the token with which the text cannot be read as `start`, or None.

    What may follow is kept as a set of stacks, for all ways of reading at once.
    """
    tokens = text.split()
    if len(tokens) > 30:
        return ("many", None)
    stacks = {(start,)}
    for at, token in enumerate(tokens):
        each = tokens[0] == "each"
        stacks = {
            first[1:] + stack[1:] for stack in stacks if stack for first in starts(stack[0])
            if is_token(first[0], token, each)
        }
        if not stacks:
            return ("unexpected", at)
    return None if () in stacks else ("end", None)


def told_fault(read, argument):
    """The line, the reason and the token of the ReadError, or None."""
    try:
        read(argument)
    except ReadError as error:
        return (error.line, error.reason, error.token)
    return None


def place_of(token):
    if token.startswith("@"):
        return ("entry", tuple(token.split(".")[1:]))
    return ("path", tuple(token.split(".")))


def literal_of(token):
    if token in ("true", "false"):
        return (token,)
    return ("text", token[1:-1]) if token.startswith('"') else ("number", int(token))


P, Q, R, S = [("has", ("path", (key,))) for key in "pqrs"]


class ReadRuleTest(unittest.TestCase):
    def test_examples(self):
        self.assertEqual(
            read_rule('each parts when @.size > 5 and not has @.class then set @.class "big" and remove @.size'),
            (
                ("parts",),
                ("and", (">", ("entry", ("size",)), 5), ("not", ("has", ("entry", ("class",))))),
                (("set", ("entry", ("class",)), ("text", "big")), ("remove", ("entry", ("size",)))),
            ),
        )
        self.assertEqual(
            read_rule("default c from a.b"), (None, None, (("copy", ("path", ("c",)), ("path", ("a", "b"))),)),
        )

    def test_each_action(self):
        self.assertEqual(read_rule("set a.b.c.d true")[2], (("set", ("path", ("a", "b", "c", "d")), ("true",)),))
        self.assertEqual(read_rule("set a false")[2], (("set", ("path", ("a",)), ("false",)),))
        self.assertEqual(read_rule("set a -12")[2], (("set", ("path", ("a",)), ("number", -12)),))
        self.assertEqual(read_rule('default a "12"')[2], (("default", ("path", ("a",)), ("text", "12")),))
        self.assertEqual(read_rule("default a 0")[2], (("default", ("path", ("a",)), ("number", 0)),))
        self.assertEqual(read_rule("remove a.set")[2], (("remove", ("path", ("a", "set"))),))
        self.assertEqual(read_rule("reject too-Big-9")[2], (("reject", "too-Big-9"),))

    def test_actions_of_entries(self):
        rule = read_rule("each a.b default @ from x.y and default @.x from @.y.z and default @ from @ and remove @")
        self.assertEqual(rule, (("a", "b"), None, (
            ("copy", ("entry", ()), ("path", ("x", "y"))),
            ("copy", ("entry", ("x",)), ("entry", ("y", "z"))),
            ("copy", ("entry", ()), ("entry", ())),
            ("remove", ("entry", ())),
        )))
        self.assertEqual(read_rule("each a set @.b.c 1 and reject and and default @ true"), (("a",), None, (
            ("set", ("entry", ("b", "c")), ("number", 1)), ("reject", "and"), ("default", ("entry", ()), ("true",)),
        )))

    def test_several_actions_stay_in_order(self):
        self.assertEqual(read_rule("when has p then set a 1 and set a 2 and reject r and remove a and set a 1"), (
            None, P, (
                ("set", ("path", ("a",)), ("number", 1)), ("set", ("path", ("a",)), ("number", 2)), ("reject", "r"),
                ("remove", ("path", ("a",))), ("set", ("path", ("a",)), ("number", 1)),
            ),
        ))

    def test_conditions_of_entries_have_places_of_both_forms(self):
        self.assertEqual(read_rule("each a when a.b.c.d < -5 or @ = true and @.x.y > 0 then remove @")[1], (
            "or", ("<", ("path", ("a", "b", "c", "d")), -5),
            ("and", ("=", ("entry", ()), ("true",)), (">", ("entry", ("x", "y")), 0)),
        ))

    def test_reserved_words_at_free_places(self):
        self.assertEqual(read_rule("reject reject"), (None, None, (("reject", "reject"),)))
        self.assertEqual(read_rule("set set.set 1")[2][0][1], ("path", ("set", "set")))
        self.assertEqual(read_rule("each each.each remove @.each"), (
            ("each", "each"), None, (("remove", ("entry", ("each",))),),
        ))
        self.assertEqual(read_rule("each a when has @.not then remove @.true.false")[1:], (
            ("has", ("entry", ("not",))), (("remove", ("entry", ("true", "false"))),),
        ))
        for word in RESERVED:
            self.assertEqual(read_rule(f"reject {word}")[2], (("reject", word),))
            self.assertEqual(read_rule(f"remove x.{word}")[2], (("remove", ("path", ("x", word))),))
            self.assertEqual(read_rule(f"remove {word}.x")[2], (("remove", ("path", (word, "x"))),))
            self.assertEqual(read_rule(f"each {word}.x remove @.{word}"), (
                (word, "x"), None, (("remove", ("entry", (word,))),),
            ))

    def test_nothing_is_ignored(self):
        self.assertEqual(told_fault(read_rule, "# remove x"), (0, "unexpected", 0))
        self.assertEqual(told_fault(read_rule, ""), (0, "end", None))
        self.assertEqual(told_fault(read_rule, "    "), (0, "end", None))
        self.assertEqual(told_fault(read_rule, "hook a"), (0, "unexpected", 0))

    def test_spaces(self):
        self.assertEqual(read_rule("   set   x    1  "), read_rule("set x 1"))


class ReadClaimTest(unittest.TestCase):
    def test_examples(self):
        self.assertEqual(read_claim("x = 1 or has y"), (
            None, ("or", ("=", ("path", ("x",)), ("number", 1)), ("has", ("path", ("y",)))),
        ))
        self.assertEqual(told_fault(read_claim, "x = 1 then"), (0, "unexpected", 3))

    def test_claims_of_entries(self):
        self.assertEqual(read_claim("each p.q not @ = 1"), (("p", "q"), ("not", ("=", ("entry", ()), ("number", 1)))))
        self.assertEqual(read_claim("each p has q"), (("p",), Q))

    def test_errors(self):
        self.assertEqual(told_fault(read_claim, ""), (0, "end", None))
        self.assertEqual(told_fault(read_claim, "# has p"), (0, "unexpected", 0))
        self.assertEqual(told_fault(read_claim, "hook a"), (0, "unexpected", 0))
        self.assertEqual(told_fault(read_claim, "when has p then remove p"), (0, "unexpected", 0))
        self.assertEqual(told_fault(read_claim, "remove p"), (0, "unexpected", 0))
        self.assertEqual(told_fault(read_claim, "each p"), (0, "end", None))
        self.assertEqual(told_fault(read_claim, "each p when has q"), (0, "unexpected", 2))
        self.assertEqual(told_fault(read_claim, "has @"), (0, "unexpected", 1))
        self.assertEqual(told_fault(read_claim, "has p and"), (0, "end", None))
        self.assertEqual(told_fault(read_claim, "has p has q"), (0, "unexpected", 2))
        self.assertEqual(told_fault(read_claim, "( has p"), (0, "end", None))
        self.assertEqual(told_fault(read_claim, "has p )"), (0, "unexpected", 2))


class GroupingTest(unittest.TestCase):
    def check(self, text, condition):
        self.assertEqual(read_claim(text), (None, condition))
        self.assertEqual(read_rule(f"when {text} then remove x")[1], condition)
        self.assertEqual(read_rule(f"each x when {text} then remove @")[1], condition)

    def test_from_the_right(self):
        self.check("has p and has q and has r", ("and", P, ("and", Q, R)))
        self.check("has p or has q or has r", ("or", P, ("or", Q, R)))
        self.check("has p and has q and has r and has s", ("and", P, ("and", Q, ("and", R, S))))
        self.check("has p or has q or has r or has s", ("or", P, ("or", Q, ("or", R, S))))

    def test_and_binds_more_tightly(self):
        self.check("has p and has q or has r", ("or", ("and", P, Q), R))
        self.check("has p or has q and has r", ("or", P, ("and", Q, R)))
        self.check("has p or has q and has r or has s", ("or", P, ("or", ("and", Q, R), S)))
        self.check("has p and has q or has r and has s", ("or", ("and", P, Q), ("and", R, S)))

    def test_not_applies_to_one_operand(self):
        self.check("not has p and has q", ("and", ("not", P), Q))
        self.check("not has p or has q", ("or", ("not", P), Q))
        self.check("has p and not has q or not not has r", ("or", ("and", P, ("not", Q)), ("not", ("not", R))))
        self.check("not ( has p and has q )", ("not", ("and", P, Q)))
        self.check("not ( has p ) and has q", ("and", ("not", P), Q))

    def test_parentheses(self):
        self.check("( has p and has q ) and has r", ("and", ("and", P, Q), R))
        self.check("has p and ( has q and has r )", ("and", P, ("and", Q, R)))
        self.check("( has p or has q ) or has r", ("or", ("or", P, Q), R))
        self.check("has p and ( has q or has r )", ("and", P, ("or", Q, R)))
        self.check("( has p or has q ) and has r", ("and", ("or", P, Q), R))
        self.check("( ( has p ) )", P)
        self.check("( ( ( has p ) or ( has q ) ) )", ("or", P, Q))

    def test_all_conditions_with_all_parentheses(self):
        def full(condition):
            if condition[0] == "has":
                return f"( has {condition[1][1][0]} )"
            if condition[0] == "not":
                return f"( not {full(condition[1])} )"
            return f"( {full(condition[1])} {condition[0]} {full(condition[2])} )"

        small = [P, ("not", Q)]
        middle = small + [(word, one, other) for word in ("and", "or") for one in small for other in small]
        for word, one, other in itertools.product(("and", "or"), middle, middle):
            condition = (word, one, other)
            if len(full(condition).split()) <= 30:
                self.assertEqual(read_claim(full(condition)), (None, condition))
            self.assertEqual(read_claim(show_claim((None, condition))), (None, condition))


class ReadHooksTest(unittest.TestCase):
    def test_example(self):
        lines = ("# sizes", "hook  big", "", 'when ( size > 9 ) then set class "big" and remove note')
        self.assertEqual(read_hooks(lines), (("big", ((None, (">", ("path", ("size",)), 9), (
            ("set", ("path", ("class",)), ("text", "big")), ("remove", ("path", ("note",))),
        )),)),))

    def test_no_hooks(self):
        for lines in ((), ("",), ("  ", "# x", "#", "#hook a", " #", "#" * 120)):
            self.assertEqual(read_hooks(lines), ())

    def test_hooks_and_rules_stay_in_order(self):
        hooks = read_hooks(("hook b", "remove x", "remove y", "hook a", "hook hook", "remove x", "remove x"))
        x, y = [(None, None, (("remove", ("path", (key,))),)) for key in "xy"]
        self.assertEqual(hooks, (("b", (x, y)), ("a", ()), ("hook", (x, x))))

    def test_names(self):
        for name in RESERVED + ["a", "team-a", "k" * 16]:
            self.assertEqual(read_hooks((f"hook {name}",)), ((name, ()),))
        for name in ("A", "9", "k" * 17, "a.b", "@", '"a"', "a_b", "-a"):
            self.assertEqual(told_fault(read_hooks, (f"hook {name}",)), (0, "unexpected", 1))

    def test_ignored_lines_count(self):
        ignored = ["", "   ", "#", "# hook a", "  #x"]
        for many in range(6):
            lines = tuple(ignored[:many] + ["hook a"] + ignored[:many] + ["set x 1"] + ignored[:many] + ["set x"])
            self.assertEqual(told_fault(read_hooks, lines), (3 * many + 2, "end", None))
            self.assertEqual(len(read_hooks(lines[:-1] + tuple(ignored))[0][1]), 1)

    def test_a_hash_elsewhere_is_a_character(self):
        self.assertEqual(read_hooks(("hook a", 'set x "#"'))[0][1][0][2], (("set", ("path", ("x",)), ("text", "#")),))
        self.assertEqual(told_fault(read_hooks, ("hook a", "set x 1 # one")), (1, "unexpected", 3))
        self.assertEqual(told_fault(read_hooks, ("hook a #",)), (0, "unexpected", 2))
        self.assertEqual(told_fault(read_hooks, ("hook a", "remove x#")), (1, "unexpected", 1))

    def test_an_ignored_line_has_any_number_of_tokens(self):
        self.assertEqual(read_hooks(("# " * 60, "hook a")), (("a", ()),))

    def test_table_of_examples(self):
        for line, reason, token in (
            ("set x 07", "unexpected", 2), ("set x", "end", None), ("set x null", "unexpected", 2),
            ("set from 1", "unexpected", 1), ("set @.x 1", "unexpected", 1), ("each parts set x 1", "unexpected", 3),
            ("when ( x = 1 then remove y", "unexpected", 5), ("when x = 1 remove y", "unexpected", 4),
            ("when x then remove y", "unexpected", 2), ("set x 1 set y 2", "unexpected", 3),
            ("remove a.b.c.d.e", "unexpected", 1), ("hook a", "duplicate", None),
        ):
            self.assertEqual(told_fault(read_hooks, ("hook a", line)), (1, reason, token), line)

    def test_no_hook_begun(self):
        for line in ("set x 1", "x", "set", "a b c", "@", "hooks a", "Hook a", "(", "each p remove @"):
            self.assertEqual(told_fault(read_hooks, (line, "hook a")), (0, "unexpected", 0), line)
            self.assertEqual(told_fault(read_hooks, ("# x", "", line)), (2, "unexpected", 0), line)
        self.assertEqual(told_fault(read_hooks, ("hook", "set x 1")), (0, "end", None))

    def test_many_tokens(self):
        right = "when " + "not " * 23 + "x = 1 then remove y"
        self.assertEqual(len(right.split()), 30)
        self.assertEqual(len(read_hooks(("hook a", right))[0][1]), 1)
        for wrong in ("not " + right, right + " )", right.replace("when", "when not"), "x " * 31, "hook a" + " b" * 29):
            self.assertEqual(told_fault(read_hooks, ("hook a", wrong)), (1, "many", None))
            self.assertEqual(told_fault(read_hooks, (wrong,)), (0, "many", None))
        self.assertEqual(told_fault(read_hooks, ("hook a", "when " + "( " * 29)), (1, "end", None))
        self.assertEqual(told_fault(read_hooks, ("hook a", "when " + "( " * 28 + ")")), (1, "unexpected", 29))
        self.assertEqual(told_fault(read_hooks, ("hook a", "when " + "( " * 30)), (1, "many", None))
        self.assertEqual(told_fault(read_hooks, ("hook a" + " b" * 28,)), (0, "unexpected", 2))

    def test_many_tokens_of_single_strings(self):
        rule = "when " + "not " * 23 + "x = 1 then remove y"
        self.assertEqual(len(read_rule(rule)), 3)
        self.assertEqual(told_fault(read_rule, rule.replace("when", "when not")), (0, "many", None))
        self.assertEqual(told_fault(read_rule, "x " * 31), (0, "many", None))
        self.assertEqual(read_claim("not " * 27 + "x = 1")[0], None)
        self.assertEqual(told_fault(read_claim, "not " * 28 + "x = 1"), (0, "many", None))
        self.assertEqual(told_fault(read_claim, "not " * 30), (0, "end", None))
        self.assertEqual(told_fault(read_claim, "not " * 31), (0, "many", None))

    def test_duplicate(self):
        self.assertEqual(told_fault(read_hooks, ("hook a", "hook b", "hook a")), (2, "duplicate", None))
        self.assertEqual(told_fault(read_hooks, ("hook a", "remove x", "", "hook a", "set")), (3, "duplicate", None))
        self.assertEqual(told_fault(read_hooks, ("hook a", "hook a x")), (1, "unexpected", 2))

    def test_five_hooks(self):
        four = ("hook a", "hook b", "hook c", "hook d")
        self.assertEqual([name for name, _ in read_hooks(four)], ["a", "b", "c", "d"])
        self.assertEqual(told_fault(read_hooks, four + ("hook e",)), (4, "hooks", None))
        self.assertEqual(told_fault(read_hooks, ("",) + four + ("remove x", "hook e", "set")), (6, "hooks", None))
        self.assertEqual(told_fault(read_hooks, four + ("hook b",)), (4, "duplicate", None))
        self.assertEqual(told_fault(read_hooks, four + ("hook e f",)), (4, "unexpected", 2))
        self.assertEqual(told_fault(read_hooks, four + ("hook",)), (4, "end", None))

    def test_seven_rules(self):
        six = ("remove x",) * 6
        self.assertEqual(len(read_hooks(("hook a",) + six)[0][1]), 6)
        self.assertEqual(told_fault(read_hooks, ("hook a",) + six + ("remove x",)), (7, "rules", None))
        split = ("hook a",) + six[:2] + ("hook b", "", "hook c") + six[2:]
        self.assertEqual([len(rules) for _, rules in read_hooks(split)], [2, 0, 4])
        self.assertEqual(told_fault(read_hooks, split + ("remove x",)), (10, "rules", None))
        self.assertEqual(told_fault(read_hooks, split + ("hook d", "remove x")), (11, "rules", None))
        self.assertEqual(told_fault(read_hooks, split + ("remove",)), (10, "end", None))
        self.assertEqual(told_fault(read_hooks, split + ("remove x y",)), (10, "unexpected", 2))
        self.assertEqual(told_fault(read_hooks, split + ("remove x" + " y" * 29,)), (10, "many", None))

    def test_the_first_line_that_cannot_be_read_counts(self):
        wrong = [("set x", "end", None), ("hook a", "duplicate", None), ("set x 07 y", "unexpected", 2),
                 ("not " * 31, "many", None), ("hook", "end", None), ("remove @", "unexpected", 1)]
        for told in itertools.permutations(wrong, 3):
            lines = ("hook a", "remove x") + tuple([line for line, _, _ in told])
            self.assertEqual(told_fault(read_hooks, lines), (2,) + told[0][1:])


class TokenKindTest(unittest.TestCase):
    CANDIDATES = RESERVED + [
        "x", "X", "x9", "9x", "team-a", "-a", "a_b", "k" * 16, "k" * 17, "a.b", "a.b.c", "a.b.c.d", "a.b.c.d.e",
        "set.x", "x.set", "and.or", "true.x", "a..b", ".a", "a.", "@", "@.", "@x", "@@", "@.x", "@.x.y", "@.x.y.z",
        "@.set", "@.and.or", "@.X", "@..x", "@.x.", "x.@", "0", "-0", "00", "07", "-07", "7", "-7", "--7", "+7", "7.0",
        "123456", "-123456", "999999", "-999999", "1234567", "-1234567", "1000000", "100000", "7-", "1x", "-",
        '"', '""', '"x"', '"x', 'x"', '"xyz', 'xyz"', 'x"y', '"x"y', 'x"y"', '"""', '"x"y"',
        '"' + "t" * 30 + '"', '"' + "t" * 31 + '"', '"("', '"#@.-0"',
        "'x'", "t" * 30, "t" * 31, "T-9" * 10, "null", "True", "too-big", "Too-Big", "(", ")", "()", "(x", "x)", "=",
        "<", ">", "<=", "x=1", "=1", "#", "#x", "!", "~", "e1", "x,",
    ]
    RULES = [
        ("remove {}", "target"), ("set {} 1", "target"), ("default {} 1", "target"), ("default {} from x", "target"),
        ("default T from {}", "place"), ("when has {} then remove T", "place"), ("when {} = 1 then remove T", "place"),
        ("when {} < 1 then remove T", "place"), ("when not ( {} > 1 ) then remove T", "place"),
        ("when x = {} then remove T", "literal"), ("set T {}", "literal"), ("default T {}", "literal"),
        ("when x < {} then remove T", "integer"), ("when x > {} then remove T", "integer"),
        ("reject {}", "reason"), ("reject {} and remove T", "reason"),
    ]

    def check(self, rule, kind, token):
        """Check what the token denotes in a rule of one of the forms."""
        _, condition, actions = rule
        while condition is not None and condition[0] == "not":
            condition = condition[1]
        if kind == "reason":
            self.assertEqual(actions[0], ("reject", token))
        elif kind == "target":
            self.assertEqual(actions[0][1], place_of(token))
        elif kind == "place":
            self.assertEqual(actions[0][2] if condition is None else condition[1], place_of(token))
        elif kind == "literal":
            self.assertEqual(actions[0][2] if condition is None else condition[2], literal_of(token))
        else:
            self.assertEqual(condition[2], int(token))

    def test_every_kind_at_every_place(self):
        for (form, kind), token, each in itertools.product(self.RULES, self.CANDIDATES, (False, True)):
            head, target = ("each p ", "@.t") if each else ("", "t")
            text = head + form.replace("T", target).replace("{}", token)
            wanted = fault("RULE", text)
            self.assertEqual(wanted is None, is_token(kind, token, each), text)
            if wanted is None:
                self.check(read_rule(text), kind, token)
            else:
                self.assertEqual(told_fault(read_rule, text), (0,) + wanted, text)

    def test_collections(self):
        for token in self.CANDIDATES:
            if is_token("path", token, True):
                wanted = tuple(token.split("."))
                self.assertEqual(read_rule(f"each {token} remove @")[0], wanted)
                self.assertEqual(read_claim(f"each {token} has @")[0], wanted)
                self.assertEqual(read_rule(f"each {token} when has x then remove @")[0], wanted)
            else:
                self.assertEqual(told_fault(read_rule, f"each {token} remove @"), (0, "unexpected", 1), token)
                self.assertEqual(told_fault(read_claim, f"each {token} has @"), (0, "unexpected", 1), token)

    def test_names(self):
        for token in self.CANDIDATES:
            if is_token("name", token, False):
                self.assertEqual(read_hooks((f"hook {token}",)), ((token, ()),))
            else:
                self.assertEqual(told_fault(read_hooks, (f"hook {token}",)), (0, "unexpected", 1), token)

    def test_characters_of_texts_and_reasons(self):
        for sign in [chr(code) for code in range(33, 127) if chr(code) != "%"]:
            told = told_fault(read_rule, f'set x "{sign}"')
            self.assertEqual(told, (0, "unexpected", 2) if sign == '"' else None, sign)
            told = told_fault(read_rule, f"reject {sign}")
            self.assertEqual(told is None, sign.isalnum() or sign == "-", sign)
            told = told_fault(read_rule, f"reject a{sign}")
            self.assertEqual(told is None, sign.isalnum() or sign == "-", sign)
            told = told_fault(read_rule, f"set x 1{sign}")
            self.assertEqual(told is None, sign.isdigit(), sign)

    def test_a_text_has_no_space(self):
        self.assertEqual(told_fault(read_rule, 'set x "a b"'), (0, "unexpected", 2))


class ChangedLineTest(unittest.TestCase):
    BASES = [
        "set x 1", "default x.y from a.b", "remove a.b.c.d", "reject too-big", "each p remove @",
        "each p.q default @.a.b from @.c", "each p when @ = true then default @ from x",
        'when x = 1 then remove y', 'when ( x = "t" or has y ) and not x < 5 then set z false and reject no',
        'each p when not ( @ > -3 and has x.y ) then set @.a "b" and remove @.c', "x = 1", "has x or not y > 5",
        "each p ( @.a = 1 )", "each p.q not has @ and x < 0 or @.a.b = false", "hook a",
    ]
    WORDS = RESERVED + [
        "@", "@.x", "@.x.y", "@.x.y.z", "x", "x.y", "a.b.c.d", "a.b.c.d.e", "=", "<", ">", "(", ")", "(x", "1)", "0",
        "-0", "07", "-5", "123456", "1234567", '"t"', '""', "null", "X", "#", "x=1",
    ]

    def changed(self):
        """All lines that come from a base with a token left out, doubled, exchanged, put in or replaced."""
        for base in self.BASES:
            tokens = base.split()
            yield base
            for at in range(len(tokens) + 1):
                yield " ".join(tokens[:at])
                yield " ".join(tokens[at:])
                yield " ".join(tokens[:at] + tokens[at + 1:])
                yield " ".join(tokens[:at] + tokens[at:at + 1] * 2 + tokens[at + 1:])
                yield " ".join(tokens[:at] + tokens[at:at + 2][::-1] + tokens[at + 2:])
                for word in self.WORDS:
                    yield " ".join(tokens[:at] + [word] + tokens[at:])
                    yield " ".join(tokens[:at] + [word] + tokens[at + 1:])

    def test_rules_claims_and_lines(self):
        for text in sorted(set(self.changed())):
            for start, read, show in (("RULE", read_rule, show_rule), ("CLAIM", read_claim, show_claim)):
                wanted = fault(start, text)
                self.assertEqual(told_fault(read, text), None if wanted is None else (0,) + wanted, text)
                if wanted is None:
                    self.assertEqual(read(show(read(text))), read(text))
            wanted = None if tokens_of(text) == () or text.startswith("#") else fault("LINE", text)
            told = told_fault(read_hooks, ("hook first", text))
            self.assertEqual(told, None if wanted is None else (1,) + wanted, text)


if __name__ == "__main__":
    unittest.main()

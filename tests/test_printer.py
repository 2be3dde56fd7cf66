"""Point 49: the printed form."""

import itertools
import unittest

from hookcheck.errors import ReadError
from hookcheck.printer import show_claim, show_hooks, show_rule
from hookcheck.reader import read_claim, read_hooks, read_rule

RESERVED = "hook each when then and or not has set default from remove reject true false".split()
ATOMS = [("has", ("path", ("p",))), ("=", ("path", ("q",)), ("number", 1)), (">", ("path", ("r", "s")), -2)]
SHOWN = {ATOMS[0]: "has p", ATOMS[1]: "q = 1", ATOMS[2]: "r.s > -2"}
P, Q, R = ATOMS


def conditions(depth):
    """All conditions over the atoms of at most so many levels above them."""
    if depth == 0:
        return list(ATOMS)
    below = conditions(depth - 1)
    found = list(ATOMS) + [("not", one) for one in below]
    for word in ("and", "or"):
        found.extend([(word, one, other) for one in below for other in below])
    return found


def with_a_pair_less(text):
    """All texts that come from this one by leaving out a pair of parentheses."""
    tokens = text.split()
    begun = []
    for at, token in enumerate(tokens):
        if token == "(":
            begun.append(at)
        elif token == ")":
            first = begun.pop()
            yield " ".join(tokens[:first] + tokens[first + 1:at] + tokens[at + 1:])


def read_or_none(text):
    try:
        return read_claim(text)
    except ReadError:
        return None


class ConditionTest(unittest.TestCase):
    def check(self, condition, text):
        self.assertEqual(show_claim((None, condition)), text)
        self.assertEqual(show_rule((None, condition, (("reject", "r"),))), f"when {text} then reject r")

    def test_atoms(self):
        for atom, text in SHOWN.items():
            self.check(atom, text)
        self.check(("<", ("path", ("a", "b", "c", "d")), 0), "a.b.c.d < 0")
        self.check(("=", ("path", ("a",)), ("true",)), "a = true")
        self.check(("=", ("path", ("a",)), ("false",)), "a = false")
        self.check(("=", ("path", ("a",)), ("text", "true")), 'a = "true"')
        self.check(("=", ("path", ("a",)), ("text", "1")), 'a = "1"')
        self.check(("=", ("path", ("a",)), ("number", -999999)), "a = -999999")

    def test_places(self):
        for path, text in (((), "@"), (("x",), "@.x"), (("set", "or"), "@.set.or")):
            self.assertEqual(show_claim((("p", "q"), ("has", ("entry", path)))), f"each p.q has {text}")
        self.assertEqual(show_claim((("p",), ("has", ("path", ("p", "x"))))), "each p has p.x")

    def test_table(self):
        self.check(("not", P), "not has p")
        self.check(("not", ("not", P)), "not not has p")
        self.check(("not", ("and", P, Q)), "not ( has p and q = 1 )")
        self.check(("not", ("or", P, Q)), "not ( has p or q = 1 )")
        self.check(("and", P, Q), "has p and q = 1")
        self.check(("and", ("and", P, Q), R), "( has p and q = 1 ) and r.s > -2")
        self.check(("and", ("or", P, Q), R), "( has p or q = 1 ) and r.s > -2")
        self.check(("and", ("not", P), R), "not has p and r.s > -2")
        self.check(("and", P, ("and", Q, R)), "has p and q = 1 and r.s > -2")
        self.check(("and", P, ("or", Q, R)), "has p and ( q = 1 or r.s > -2 )")
        self.check(("and", P, ("not", R)), "has p and not r.s > -2")
        self.check(("or", P, Q), "has p or q = 1")
        self.check(("or", ("and", P, Q), R), "has p and q = 1 or r.s > -2")
        self.check(("or", ("or", P, Q), R), "( has p or q = 1 ) or r.s > -2")
        self.check(("or", ("not", P), R), "not has p or r.s > -2")
        self.check(("or", P, ("and", Q, R)), "has p or q = 1 and r.s > -2")
        self.check(("or", P, ("or", Q, R)), "has p or q = 1 or r.s > -2")

    def test_examples_of_the_point(self):
        for text, printed in (
            ("( x = 1 and y = 2 ) and z = 3", "( x = 1 and y = 2 ) and z = 3"),
            ("x = 1 and ( y = 2 and z = 3 )", "x = 1 and y = 2 and z = 3"),
        ):
            self.assertEqual(show_claim(read_claim(text)), printed)

    def test_printed_forms_are_read_and_have_no_pair_too_many(self):
        for condition in conditions(2):
            text = show_claim((None, condition))
            self.assertEqual(text, " ".join(text.split()))
            self.assertEqual(read_claim(text), (None, condition))
            for shorter in with_a_pair_less(text):
                self.assertNotEqual(read_or_none(shorter), (None, condition))

    def test_three_levels(self):
        below = [P, ("not", Q), ("and", P, Q), ("or", P, Q), ("and", ("or", P, Q), R), ("or", P, ("or", Q, R))]
        for word, one, other in itertools.product(("and", "or"), below, below):
            claim = (None, ("not", (word, one, other)))
            if len(show_claim(claim).split()) <= 30:
                self.assertEqual(read_claim(show_claim(claim)), claim)


class RuleTest(unittest.TestCase):
    def test_example(self):
        rule = read_rule("when not ( not ( x = 1 ) ) and ( y = 2 or z = 3 ) then remove w")
        self.assertEqual(show_rule(rule), "when not not x = 1 and ( y = 2 or z = 3 ) then remove w")

    def test_each_action(self):
        place = ("path", ("a", "b"))
        for action, text in (
            (("set", place, ("true",)), "set a.b true"), (("default", place, ("text", "-(")), 'default a.b "-("'),
            (("default", place, ("number", 0)), "default a.b 0"), (("set", place, ("number", -7)), "set a.b -7"),
            (("copy", place, ("path", ("c",))), "default a.b from c"), (("remove", place), "remove a.b"),
            (("reject", "reject"), "reject reject"), (("set", place, ("text", "false")), 'set a.b "false"'),
        ):
            self.assertEqual(show_rule((None, None, (action,))), text)
            self.assertEqual(read_rule(text), (None, None, (action,)))

    def test_collections_and_several_actions(self):
        rule = (("p", "q"), ("or", ("has", ("entry", ())), P), (
            ("set", ("entry", ()), ("false",)), ("copy", ("entry", ("x",)), ("path", ("y", "z"))),
            ("copy", ("entry", ("x",)), ("entry", ("y", "z"))), ("reject", "no"),
        ))
        text = "each p.q when has @ or has p then set @ false and default @.x from y.z and default @.x from @.y.z"
        self.assertEqual(show_rule(rule), text + " and reject no")
        self.assertEqual(read_rule(text + " and reject no"), rule)
        self.assertEqual(show_rule((("p",), None, (("remove", ("entry", ("x",))),))), "each p remove @.x")

    def test_superfluous_parentheses_and_spaces_are_left_out(self):
        for text, printed in (
            ("  when   ( ( has p ) )  then   remove x ", "when has p then remove x"),
            ("when ( has p or q = 1 ) then remove x", "when has p or q = 1 then remove x"),
            ("each p when ( not ( @ < 3 ) ) then reject r", "each p when not @ < 3 then reject r"),
            ("when ( has p and q = 1 ) or ( r = 2 and s = 3 ) then remove x",
             "when has p and q = 1 or r = 2 and s = 3 then remove x"),
        ):
            self.assertEqual(show_rule(read_rule(text)), printed)
            self.assertEqual(show_rule(read_rule(printed)), printed)

    def test_what_is_printed_already_stays(self):
        for text in (
            "set x 1", 'default x "1"', "default x from y.z", "remove a.b.c.d", "reject and", "each p remove @",
            "when has p then set x true and reject r", "each a.b when @.c = 0 and not @ > 5 then default @.c from d",
        ):
            self.assertEqual(show_rule(read_rule(text)), text)


class ClaimTest(unittest.TestCase):
    def test_claims(self):
        for text in ("has p", "each p has @", "each p.q not ( @.a = 1 or has x ) and x < 0", "not not has p"):
            self.assertEqual(show_claim(read_claim(text)), text)
        self.assertEqual(show_claim(read_claim(" each  p ( ( @ = 1 ) or x = 2 ) ")), "each p @ = 1 or x = 2")


class HooksTest(unittest.TestCase):
    def test_example(self):
        hooks = read_hooks(("hook  big", 'when ( size > 9 ) then  remove note', "hook set"))
        self.assertEqual(show_hooks(hooks), ("hook big", "  when size > 9 then remove note", "hook set"))

    def test_no_hooks(self):
        self.assertEqual(show_hooks(()), ())

    def test_order(self):
        lines = ("hook b", "  remove x", "  remove x", "hook a", "hook hook", "  each p reject no", "  set a.set 1")
        self.assertEqual(show_hooks(read_hooks(("# b", "") + lines)), lines)
        self.assertEqual(read_hooks(lines), read_hooks(show_hooks(read_hooks(lines))))

    def test_names_may_be_reserved(self):
        for word in RESERVED:
            self.assertEqual(show_hooks(((word, ()),)), (f"hook {word}",))

    def test_longest_lines_are_read_again(self):
        line = "when a.b = " + '"' + "t" * 30 + '" then remove ' + ".".join(["k" * 16] * 3) + "." + "k" * 13
        self.assertEqual(len(line), 120)
        hooks = read_hooks(("hook a", line))
        self.assertEqual(show_hooks(hooks), ("hook a", "  " + line))
        self.assertEqual(read_hooks(show_hooks(hooks)), hooks)


if __name__ == "__main__":
    unittest.main()

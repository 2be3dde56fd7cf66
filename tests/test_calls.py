"""Points 65 to 68: actions, rules, effects and calls of hooks."""

import unittest

from hookcheck.calls import apply_rule, call_hook, replayed
from hookcheck.documents import document_of, nodes
from hookcheck.reader import read_rule

from tests.model import apply_by_words, call_by_words, make_effects
from tests.tools import Dice, all_documents, doc, hook_of, nodes_dict, rules_of, value

ONE = ("number", 1)
TWO = ("number", 2)


def applied(text, told):
    return apply_rule(read_rule(text), doc(told))


def done(told, *effects):
    return ("done", doc(told), effects)


def put(word, path, told, source=None):
    """An effect with the scalar; paths are written with full stops."""
    return (word, tuple(path.split(".")), value(told), source and tuple(source.split(".")))


def removed(path):
    return ("remove", tuple(path.split(".")), None, None)


class ActionTest(unittest.TestCase):
    def check(self, text, *rows):
        for before, expected in rows:
            self.assertEqual(applied(text, before), expected, (text, before))

    def test_set(self):
        effect = put("set", "a", 1)
        self.check(
            "set a 1",
            ({}, done({"a": 1}, effect)),
            ({"a": 1}, done({"a": 1})),
            ({"a": 2, "b": 3}, done({"a": 1, "b": 3}, effect)),
            ({"a": "1"}, done({"a": 1}, effect)),
            ({"a": True}, done({"a": 1}, effect)),
            ({"a": None}, done({"a": 1}, effect)),
            ({"a": {}}, done({"a": 1}, effect)),
            ({"a": {"b": {"c": 1}}}, done({"a": 1}, effect)),
        )
        self.check(
            "set a.b true",
            ({"a": {"b": True, "c": 1}}, done({"a": {"b": True, "c": 1}})),
            ({"a": {"b": 1, "c": 1}}, done({"a": {"b": True, "c": 1}}, put("set", "a.b", True))),
            ({"a": 1, "b": 2}, done({"a": {"b": True}, "b": 2}, put("set", "a.b", True))),
            ({"a": {"b": {"c": True}}}, done({"a": {"b": True}}, put("set", "a.b", True))),
            ({}, done({"a": {"b": True}}, put("set", "a.b", True))),
        )

    def test_default(self):
        effect = put("default", "a", "x")
        self.check('default a "x"', ({}, done({"a": "x"}, effect)), ({"b": {}}, done({"a": "x", "b": {}}, effect)))
        for told in (None, False, 1, "x", "y", {}, {"b": 1}):
            self.check('default a "x"', ({"a": told}, done({"a": told})))
        effect = put("default", "a.b", 1)
        self.check(
            "default a.b 1",
            ({"a": 5}, done({"a": {"b": 1}}, effect)),
            ({"a": {}}, done({"a": {"b": 1}}, effect)),
            ({"a": {"b": {}}}, done({"a": {"b": {}}})),
            ({"a": {"c": 2}}, done({"a": {"b": 1, "c": 2}}, effect)),
        )

    def test_copy(self):
        for told in (None, False, True, 0, -7, 10 ** 9, "", "a b", "x" * 60):
            self.check(
                "default a from b",
                ({"b": told}, done({"a": told, "b": told}, put("copy", "a", told, "b"))),
                ({"a": 5, "b": told}, done({"a": 5, "b": told})),
                ({"a": {}, "b": told}, done({"a": {}, "b": told})),
            )
        self.check(
            "default a from b",
            ({}, done({})),
            ({"b": {}}, done({"b": {}})),
            ({"b": {"a": 1}}, done({"b": {"a": 1}})),
        )
        self.check(
            "default a.b from a",
            ({"a": 5}, done({"a": {"b": 5}}, put("copy", "a.b", 5, "a"))),
            ({"a": {}}, done({"a": {}})),
            ({}, done({})),
        )
        self.check(
            "default a.b.c.d from x.y",
            ({"x": {"y": 3}}, done({"a": {"b": {"c": {"d": 3}}}, "x": {"y": 3}}, put("copy", "a.b.c.d", 3, "x.y"))),
            ({"x": {"y": {}}}, done({"x": {"y": {}}})),
            ({"x": 3}, done({"x": 3})),
        )
        self.check("default a from a", ({}, done({})), ({"a": 1}, done({"a": 1})), ({"a": {}}, done({"a": {}})))

    def test_remove(self):
        for told in (None, False, 1, "", {}, {"b": {"c": 1}}):
            self.check("remove a", ({"a": told, "c": 1}, done({"c": 1}, removed("a"))))
        self.check("remove a", ({}, done({})), ({"b": {"a": 1}}, done({"b": {"a": 1}})))
        self.check(
            "remove a.b",
            ({"a": {"b": 1}}, done({"a": {}}, removed("a.b"))),
            ({"a": {"b": {"c": 1}, "c": 2}}, done({"a": {"c": 2}}, removed("a.b"))),
            ({"a": {}}, done({"a": {}})),
            ({"a": 1}, done({"a": 1})),
        )

    def test_reject(self):
        for told in ({}, {"a": 1}):
            self.assertEqual(applied("reject not-A1", told), ("rejected", "not-A1"))

    def test_one_action_sees_what_those_before_it_left(self):
        self.check(
            "set a 1 and set a 1",
            ({}, done({"a": 1}, put("set", "a", 1))),
        )
        self.check("set a 1 and default a 2", ({}, done({"a": 1}, put("set", "a", 1))))
        self.check("default a 2 and set a 1", ({}, done({"a": 1}, put("default", "a", 2), put("set", "a", 1))))
        self.check(
            "remove a and default a 2",
            ({"a": 1}, done({"a": 2}, removed("a"), put("default", "a", 2))),
            ({}, done({"a": 2}, put("default", "a", 2))),
        )
        self.check("default a 2 and remove a", ({}, done({}, put("default", "a", 2), removed("a"))))
        self.check("remove a and remove a", ({"a": 1}, done({}, removed("a"))))
        self.check("remove a and remove a.b", ({"a": {"b": 1}}, done({}, removed("a"))))
        self.check("remove a.b and remove a", ({"a": {"b": 1}}, done({}, removed("a.b"), removed("a"))))
        self.check("set a.b 1 and set a 2", ({}, done({"a": 2}, put("set", "a.b", 1), put("set", "a", 2))))
        self.check("set a 2 and set a.b 1", ({}, done({"a": {"b": 1}}, put("set", "a", 2), put("set", "a.b", 1))))
        self.check("set a.b 1 and default a 2", ({}, done({"a": {"b": 1}}, put("set", "a.b", 1))))
        self.check("default a 2 and default a.b 1", (
            {}, done({"a": {"b": 1}}, put("default", "a", 2), put("default", "a.b", 1)),
        ))
        self.check("set a.b 1 and remove a.c", ({"a": 5}, done({"a": {"b": 1}}, put("set", "a.b", 1))))
        self.check("set a 1 and remove a.b", ({"a": {"b": 1}}, done({"a": 1}, put("set", "a", 1))))

    def test_values_are_copied_from_the_document_before_the_rule(self):
        self.check(
            "set a 9 and default b from a",
            ({"a": 1}, done({"a": 9, "b": 1}, put("set", "a", 9), put("copy", "b", 1, "a"))),
            ({"a": {}}, done({"a": 9}, put("set", "a", 9))),
            ({}, done({"a": 9}, put("set", "a", 9))),
            ({"a": 9}, done({"a": 9, "b": 9}, put("copy", "b", 9, "a"))),
        )
        self.check(
            "remove a and default b from a",
            ({"a": 1}, done({"b": 1}, removed("a"), put("copy", "b", 1, "a"))),
        )
        self.check(
            "remove a and default a from a",
            ({"a": 1}, done({"a": 1}, removed("a"), put("copy", "a", 1, "a"))),
            ({"a": {"b": 1}}, done({}, removed("a"))),
        )
        self.check(
            "remove a and default a.b from a.c",
            ({"a": {"c": 5}}, done({"a": {"b": 5}}, removed("a"), put("copy", "a.b", 5, "a.c"))),
        )
        self.check(
            "remove b and default b from a and default a from c",
            ({"b": 1, "c": 2}, done({"a": 2, "c": 2}, removed("b"), put("copy", "a", 2, "c"))),
        )


class RuleTest(unittest.TestCase):
    def test_examples_of_the_text(self):
        copies = "default b from a and default c from b"
        self.assertEqual(applied(copies, {"a": 1}), done({"a": 1, "b": 1}, put("copy", "b", 1, "a")))
        self.assertEqual(
            applied(copies, {"a": 1, "b": 2}), done({"a": 1, "b": 2, "c": 2}, put("copy", "c", 2, "b")),
        )
        sets = "set a 1 and set a 2"
        self.assertEqual(applied(sets, {"a": 2}), done({"a": 2}, put("set", "a", 1), put("set", "a", 2)))
        self.assertEqual(applied(sets, {"a": 1}), done({"a": 2}, put("set", "a", 2)))
        each = "each parts when has parts.a then remove @"
        self.assertEqual(
            applied(each, {"parts": {"a": {}, "b": {}}}), done({"parts": {}}, removed("parts.a"), removed("parts.b")),
        )
        self.assertEqual(applied(each, {"parts": {"b": {}}}), done({"parts": {"b": {}}}))
        self.assertEqual(
            applied("remove a and default a.b 1", {"a": {"b": 7, "c": 8}}),
            done({"a": {"b": 1}}, removed("a"), put("default", "a.b", 1)),
        )

    def test_condition_of_the_document_before_the_rule(self):
        self.assertEqual(applied("when a > 5 then set b 1", {"a": 6}), done({"a": 6, "b": 1}, put("set", "b", 1)))
        self.assertEqual(applied("when a > 5 then set b 1", {"a": 5}), done({"a": 5}))
        self.assertEqual(
            applied("when not has a then set a 1 and set b 2", {}),
            done({"a": 1, "b": 2}, put("set", "a", 1), put("set", "b", 2)),
        )

    def test_a_place_of_the_document_in_a_collection(self):
        self.assertEqual(
            applied("each p when total > 3 then default @.q from total", {"p": {"x": {}, "y": 5}, "total": 4}),
            done(
                {"p": {"x": {"q": 4}, "y": {"q": 4}}, "total": 4},
                put("copy", "p.x.q", 4, "total"), put("copy", "p.y.q", 4, "total"),
            ),
        )
        self.assertEqual(applied("each p when total > 3 then remove @", {"p": {"x": {}}}), done({"p": {"x": {}}}))

    def test_entries_in_their_order(self):
        before = {"p": {"c": 1, "b": 2, "aa": 3, "a-": 4}}
        self.assertEqual(
            applied("each p when @ > 1 then set @ true", before),
            done(
                {"p": {"b": True, "c": 1, "a-": True, "aa": True}},
                put("set", "p.b", True), put("set", "p.a-", True), put("set", "p.aa", True),
            ),
        )

    def test_entries_and_conditions_are_those_before_the_rule(self):
        # The value of the entry b counts, though the actions for a remove or replace all entries.
        two = {"p": {"a": {"x": 1}, "b": {"x": 2}}}
        self.assertEqual(
            applied("each p when has p.a then set @.x 7 and remove @.x", two),
            done(
                {"p": {"a": {}, "b": {}}},
                put("set", "p.a.x", 7), removed("p.a.x"), put("set", "p.b.x", 7), removed("p.b.x"),
            ),
        )
        self.assertEqual(
            applied("each p when p.a.x = 1 then set @.x 3", two),
            done({"p": {"a": {"x": 3}, "b": {"x": 3}}}, put("set", "p.a.x", 3), put("set", "p.b.x", 3)),
        )
        self.assertEqual(
            applied("each p set @.x 5 and default @.y from p.a.x", two),
            done(
                {"p": {"a": {"x": 5, "y": 1}, "b": {"x": 5, "y": 1}}},
                put("set", "p.a.x", 5), put("copy", "p.a.y", 1, "p.a.x"),
                put("set", "p.b.x", 5), put("copy", "p.b.y", 1, "p.a.x"),
            ),
        )
        self.assertEqual(
            applied("each p when not has p.b.y then default @.y from p.a.x", two),
            done(
                {"p": {"a": {"x": 1, "y": 1}, "b": {"x": 2, "y": 1}}},
                put("copy", "p.a.y", 1, "p.a.x"), put("copy", "p.b.y", 1, "p.a.x"),
            ),
        )

    def test_no_entries(self):
        for told in ({}, {"p": 1}, {"p": {}}, {"p": None}):
            self.assertEqual(applied("each p set @.x 1", told), done(told))
            self.assertEqual(applied("each p reject no", told), done(told))
            self.assertEqual(applied("each p.q when not has z then reject no", told), done(told))
        self.assertEqual(applied("each p.q set @ 1", {"p": {"q": 5}}), done({"p": {"q": 5}}))

    def test_entries_of_two_keys_and_scalars_as_entries(self):
        self.assertEqual(
            applied("each p.q default @.x.y from @", {"p": {"q": {"b": 5, "c": {}}}}),
            done({"p": {"q": {"b": {"x": {"y": 5}}, "c": {}}}}, put("copy", "p.q.b.x.y", 5, "p.q.b")),
        )

    def test_reject_first_and_later(self):
        self.assertEqual(applied("set a 1 and reject one and reject two", {}), ("rejected", "one"))
        self.assertEqual(applied("reject one and set a 1", {}), ("rejected", "one"))
        self.assertEqual(applied("when has a then reject one", {}), done({}))
        each = "each p when @ > 1 then set @ 0 and reject big"
        self.assertEqual(applied(each, {"p": {"a": 1, "b": 1}}), done({"p": {"a": 1, "b": 1}}))
        self.assertEqual(applied(each, {"p": {"a": 2, "b": 1}}), ("rejected", "big"))
        self.assertEqual(applied(each, {"p": {"a": 1, "b": 2}}), ("rejected", "big"))

    def test_effects_that_lead_back(self):
        self.assertEqual(
            applied("set a 2 and set a 1", {"a": 1}), done({"a": 1}, put("set", "a", 2), put("set", "a", 1)),
        )
        self.assertEqual(
            applied("remove a and set a.b 1", {"a": {"b": 1}}),
            done({"a": {"b": 1}}, removed("a"), put("set", "a.b", 1)),
        )

    def test_a_rule_without_actions(self):
        self.assertEqual(apply_rule((("p",), ("has", ("path", ("a",))), ()), doc({"p": {"x": 1}, "a": 1}))[2], ())


class WordsTest(unittest.TestCase):
    """Rules on documents against the words of the points."""

    def check(self, rule, before):
        expected = apply_by_words(rule, nodes_dict(before))
        answer = apply_rule(rule, before)
        if expected[0] == "done":
            expected = ("done", document_of(tuple(expected[1].items())), expected[2])
            self.assertEqual(replayed(before, answer[2]), answer[1], (rule, before))
        self.assertEqual(answer, expected, (rule, before))

    def test_two_actions_on_all_small_documents(self):
        documents = all_documents(("a", "b"), 2)
        targets = ("a", "b", "a.b", "b.a")
        singles = [f"{word} {path} 1" for word in ("set", "default") for path in targets]
        singles += [f"remove {path}" for path in targets] + ["reject no"]
        singles += [f"default {path} from {other}" for path in targets for other in ("a", "a.b")]
        for first in singles:
            for second in singles:
                rule = read_rule(f"{first} and {second}")
                for before in documents:
                    self.check(rule, before)

    def test_random_rules_with_collections(self):
        dice = Dice(65)
        paths = [("p",), ("q",), ("p", "a"), ("p", "a", "x"), ("q", "b")]
        collections = [("p",), ("p",), ("p", "a"), ("q",), None]
        for _ in range(1500):
            rule = dice.rule(paths, collections, [(), ("x",), ("y",), ("x", "y")], (True, 0, 1, "t"))
            for _ in range(4):
                self.check(rule, dice.document(("a", "b", "p", "q", "x"), 4, (None, True, 0, 1, "t"), 0.55))

    def test_random_hooks(self):
        dice = Dice(68)
        paths = [("a",), ("a", "b"), ("b",), ("c",)]
        for _ in range(300):
            rules = [dice.rule(paths, [None, None, ("a",), ("b",)], [(), ("b",)], (True, 1), 0.03) for _ in range(3)]
            hook = ("h", tuple(rules[:dice.dice.randint(0, 3)]))
            before = dice.document(("a", "b", "c"), 3, (True, 0, 1))
            expected = call_by_words(hook, nodes_dict(before))
            if expected[0] == "done":
                expected = ("done", document_of(tuple(expected[1].items())), expected[2])
            self.assertEqual(call_hook(hook, before), expected, (hook, before))


class ReplayedTest(unittest.TestCase):
    def test_nothing_is_asked(self):
        before = doc({"a": {"b": 1}, "c": 2})
        self.assertEqual(replayed(before, ()), before)
        self.assertEqual(replayed(before, (put("set", "c", 2),)), before)
        self.assertEqual(replayed(before, (put("default", "c", 3),)), doc({"a": {"b": 1}, "c": 3}))
        self.assertEqual(replayed(before, (put("copy", "c", 4, "x"),)), doc({"a": {"b": 1}, "c": 4}))
        self.assertEqual(replayed(before, (put("copy", "c", 4, "a"),)), doc({"a": {"b": 1}, "c": 4}))
        self.assertEqual(replayed(before, (removed("x"), removed("c.d"), removed("a.b.c"))), before)
        self.assertEqual(replayed(before, (removed("a"), removed("c"))), ())
        self.assertEqual(replayed(before, (put("set", "c.d.e", None),)), doc({"a": {"b": 1}, "c": {"d": {"e": None}}}))

    def test_one_after_another(self):
        effects = (put("set", "a.b.c.d.e", 1), put("default", "a.b", 2), removed("a.b"), put("copy", "a.c", 3, "a.b"))
        expected = ({"a": {"b": {"c": {"d": {"e": 1}}}}}, {"a": {"b": 2}}, {"a": {}}, {"a": {"c": 3}})
        for many, told in enumerate(expected):
            self.assertEqual(replayed((), effects[:many + 1]), doc(told))

    def test_a_thousand_effects(self):
        effects = tuple([put("set", f"k{at}", at) for at in range(500)] + [removed(f"k{at}") for at in range(499)])
        self.assertEqual(replayed((), effects), doc({"k499": 499}))

    def test_random_effects(self):
        dice = Dice(67)
        for _ in range(300):
            effects = []
            for _ in range(4):
                path = tuple([dice.one("abc") for _ in range(dice.dice.randint(1, 3))])
                word = dice.one(("set", "default", "copy", "remove"))
                effects.append((word, path, None if word == "remove" else value(dice.one((1, True, "x"))),
                                ("z",) if word == "copy" else None))
            before = dice.document(("a", "b", "c"), 3, (0, 1))
            expected = make_effects(nodes_dict(before), effects)
            self.assertEqual(dict(nodes(replayed(before, tuple(effects)))), expected)


class CallTest(unittest.TestCase):
    def test_no_rules(self):
        self.assertEqual(call_hook(hook_of(), doc({"a": 1})), ("done", doc({"a": 1}), ()))

    def test_rules_see_what_those_before_them_left(self):
        hook = hook_of("when has a then set b 1", "when b = 1 then default c from b", "remove a")
        self.assertEqual(call_hook(hook, doc({"a": 0})), ("done", doc({"b": 1, "c": 1}), (
            (0, put("set", "b", 1)), (1, put("copy", "c", 1, "b")), (2, removed("a")),
        )))
        self.assertEqual(call_hook(hook, ()), ("done", (), ()))
        self.assertEqual(call_hook(hook, doc({"b": 1})), ("done", doc({"b": 1, "c": 1}), (
            (1, put("copy", "c", 1, "b")),
        )))

    def test_two_effects_of_one_rule(self):
        hook = hook_of("remove z", "each p set @ 1")
        self.assertEqual(call_hook(hook, doc({"p": {"a": 0, "b": 0}})), ("done", doc({"p": {"a": 1, "b": 1}}), (
            (1, put("set", "p.a", 1)), (1, put("set", "p.b", 1)),
        )))

    def test_the_first_rule_that_rejects(self):
        hook = hook_of("set a 1", "when a = 1 then reject one", "reject two")
        self.assertEqual(call_hook(hook, ()), ("rejected", 1, "one"))
        self.assertEqual(call_hook(("h", hook[1][2:]), ()), ("rejected", 0, "two"))
        self.assertEqual(call_hook(("h", hook[1][1:]), doc({"a": 2})), ("rejected", 1, "two"))

    def test_effects_that_lead_back_to_the_same_document(self):
        hook = hook_of("remove a", "set a 1")
        self.assertEqual(call_hook(hook, doc({"a": 1})), ("done", doc({"a": 1}), (
            (0, removed("a")), (1, put("set", "a", 1)),
        )))

    def test_the_document_is_unchanged(self):
        before = doc({"p": {"a": {"x": 1}}})
        call_hook(hook_of("each p remove @.x and set @.y 2"), before)
        self.assertEqual(before, doc({"p": {"a": {"x": 1}}}))

    def test_results_beyond_the_bounds_are_passed_on(self):
        # Each call adds a hundred nodes and an effect for each of them.
        before = ("record", tuple([(f"k{at}", ("record", ())) for at in range(10, 60)]))
        hook = hook_of("each p set @.x.y 1")
        first = call_hook(hook, (("p", before),))
        self.assertEqual(len(first[2]), 50)
        again = call_hook(hook, first[1])
        self.assertEqual(again, ("done", first[1], ()))
        self.assertEqual(replayed((("p", before),), [effect for _, effect in first[2]]), first[1])


class RulesOfTest(unittest.TestCase):
    def test_claims_as_rules(self):
        rule = rules_of("each p remove @")[0]
        self.assertEqual(apply_rule((rule[0], None, ()), doc({"p": {"a": 1}})), done({"p": {"a": 1}}))


if __name__ == "__main__":
    unittest.main()

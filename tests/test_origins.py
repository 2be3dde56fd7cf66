"""Points 90 and 91: origins of paths by logs, and of admitted documents."""

import unittest

from hookcheck.documents import held, nodes
from hookcheck.origins import origin_of, origins
from hookcheck.plans import run

from tests.model import origin_by_words
from tests.tools import Dice, doc, error_of, hooks_of, value

LABELS = hooks_of(
    names=("default label from name and default title from label", "default title from label"),
    rename='when name = "x" then set name "y"',
)


def entry(call, rule, word, path, source=None, hook="h"):
    scalar = None if word == "remove" else value(call)
    return (call, hook, rule, (word, tuple(path.split(".")), scalar, source and tuple(source.split("."))))


def field(path):
    return ("field", tuple(path.split(".")))


class OriginOfTest(unittest.TestCase):
    def check(self, log, **expected):
        for path, origin in expected.items():
            self.assertEqual(origin_of(tuple(log), (path,)), origin, (log, path))

    def test_examples(self):
        log = ((0, "h", 0, ("default", ("a",), ("true",), None)), (0, "h", 0, ("copy", ("b",), ("false",), ("a",))))
        self.check(log, b=field("a"), a=("literal", 0))

    def test_no_entries(self):
        self.check((), a=field("a"))
        self.assertEqual(origin_of((), ("a", "b", "c", "d", "e")), field("a.b.c.d.e"))
        self.check((entry(3, 0, "set", "b"), entry(4, 0, "remove", "a")), a=field("a"), b=("literal", 3))

    def test_the_last_entry_counts(self):
        log = (entry(1, 0, "set", "a"), entry(2, 5, "default", "a"), entry(7, 1, "remove", "a"))
        self.check(log, a=("literal", 2))
        self.check(log[:1], a=("literal", 1))
        self.check(log + (entry(8, 0, "copy", "a", "b"),), a=field("b"))
        self.check((entry(8, 0, "copy", "a", "b"),) + log, a=("literal", 2))

    def test_calls_need_not_ascend(self):
        self.check((entry(9, 3, "set", "a"), entry(2, 1, "set", "a")), a=("literal", 2))

    def test_only_the_path_itself(self):
        log = (entry(0, 0, "set", "a"), entry(1, 0, "set", "a.b"), entry(2, 0, "remove", "a"))
        self.assertEqual(origin_of(log, ("a", "b")), ("literal", 1))
        self.assertEqual(origin_of(log, ("a",)), ("literal", 0))
        self.assertEqual(origin_of(log, ("a", "b", "c")), field("a.b.c"))
        self.assertEqual(origin_of(log, ("b",)), field("b"))

    def test_copied_round(self):
        log = (entry(0, 0, "set", "a"), entry(1, 0, "copy", "b", "a"), entry(2, 0, "copy", "c", "b"),
               entry(3, 0, "remove", "a"), entry(4, 0, "copy", "a", "c"))
        self.check(log, a=("literal", 0), b=("literal", 0), c=("literal", 0), d=field("d"))
        self.check(log[1:], a=field("a"), b=field("a"), c=field("a"))

    def test_copied_from_itself(self):
        self.check((entry(0, 0, "copy", "a", "a"),), a=field("a"))
        self.check((entry(0, 0, "set", "a"), entry(1, 0, "copy", "a", "a")), a=("literal", 0))
        self.check((entry(1, 0, "set", "a"), entry(1, 0, "copy", "a", "a")), a=field("a"))
        self.check((entry(1, 0, "remove", "a"), entry(1, 0, "copy", "a", "a")), a=field("a"))

    def test_set_removed_and_copied_again(self):
        log = (entry(0, 0, "copy", "b", "a"), entry(1, 0, "set", "a"), entry(2, 0, "remove", "a"),
               entry(2, 1, "copy", "a", "b"), entry(3, 0, "copy", "c", "a"))
        self.check(log, a=field("a"), b=field("a"), c=field("a"))
        self.check(log[1:], a=field("b"), b=field("b"), c=field("b"))

    def test_entries_with_the_same_call_and_rule(self):
        # The second copy looks at what was there before the first entry of the same call and rule.
        log = (entry(0, 0, "set", "a"), entry(1, 2, "set", "a"), entry(1, 2, "copy", "b", "a"))
        self.check(log, b=("literal", 0), a=("literal", 1))
        self.check(log[1:], b=field("a"))

    def test_the_first_entry_with_the_same_numbers_wherever_it_stands(self):
        log = (entry(5, 5, "set", "x"), entry(0, 0, "set", "a"), entry(5, 5, "copy", "b", "a"))
        self.check(log, b=field("a"), a=("literal", 0))
        self.check((entry(5, 4, "set", "x"),) + log[1:], b=("literal", 0))
        self.check((entry(4, 5, "set", "x"),) + log[1:], b=("literal", 0))

    def test_whatever_their_hooks(self):
        log = (entry(0, 0, "set", "a", hook="g"), entry(0, 0, "copy", "b", "a", hook="h"))
        self.check(log, b=field("a"), a=("literal", 0))

    def test_the_same_rule_in_different_calls(self):
        log = (entry(0, 1, "set", "a"), entry(1, 1, "copy", "b", "a"), entry(2, 1, "copy", "c", "b"))
        self.check(log, c=("literal", 0))
        log = (entry(0, 0, "set", "a"), entry(0, 1, "copy", "b", "a"), entry(0, 2, "copy", "c", "b"))
        self.check(log, c=("literal", 0))

    def test_the_values_are_not_looked_at(self):
        log = ((0, "h", 0, ("set", ("a",), ("true",), ("z",))), (1, "h", 0, ("copy", ("b",), ("false",), ("a",))))
        self.check(log, b=("literal", 0))

    def test_random_logs_by_the_words(self):
        dice = Dice(90)
        paths = [("a",), ("b",), ("c",), ("a", "b")]
        for _ in range(3000):
            log = []
            for _ in range(dice.dice.randint(0, 9)):
                word = dice.one(("set", "default", "copy", "copy", "copy", "remove"))
                effect = (word, dice.one(paths), None if word == "remove" else ("true",),
                          dice.one(paths) if word == "copy" else None)
                log.append((dice.dice.randint(0, 4), dice.one("gh"), dice.dice.randint(0, 1), effect))
            for path in paths:
                self.assertEqual(origin_of(tuple(log), path), origin_by_words(log, path), (log, path))

    def test_a_long_chain(self):
        log = [entry(0, 0, "set", "k0")] + [entry(at, 0, "copy", f"k{at}", f"k{at - 1}") for at in range(1, 60)]
        self.check(log, k59=("literal", 0))
        self.check(log[1:], k59=field("k0"))


class OriginsTest(unittest.TestCase):
    def test_example(self):
        self.assertEqual(origins(LABELS, (("names", "rename"), (), 0), doc({"name": "x"})), (
            (("name",), ("literal", 1), 1), (("label",), field("name"), 0), (("title",), field("name"), 0),
        ))

    def test_nothing_is_written(self):
        before = doc({"a": {"b": 1, "c": {}}, "b": None, "aa": "x"})
        self.assertEqual(origins(LABELS, ((), (), 0), before), (
            (("a", "b"), field("a.b"), None), (("b",), field("b"), None), (("aa",), field("aa"), None),
        ))
        self.assertEqual(origins((), ((), (), 0), ()), ())
        self.assertEqual(origins((), ((), (), 0), doc({"a": {"b": {}}})), ())

    def test_rejected_and_unsettled(self):
        hooks = hooks_of(no="when has a then reject r", flip="remove z and set z 1")
        self.assertIsNone(origins(hooks, (("no",), (), 0), doc({"a": 1})))
        self.assertEqual(origins(hooks, (("no",), (), 0), doc({"b": 1})), ((("b",), field("b"), None),))
        self.assertIsNone(origins(hooks, ((), ("flip",), 2), ()))
        self.assertEqual(origins(hooks, (("flip",), (), 2), ()), ((("z",), ("literal", 0), 0),))

    def test_a_path_that_was_removed_before(self):
        hooks = hooks_of(go=("default b from a", "remove a", "default a from b"))
        self.assertEqual(origins(hooks, (("go", "go"), (), 0), doc({"a": 5})), (
            (("a",), field("a"), 1), (("b",), field("a"), 0),
        ))

    def test_entries_of_a_collection(self):
        hooks = hooks_of(fill=("each p default @.x from y", "set y 2"), more="each p default @.z from @.x")
        self.assertEqual(origins(hooks, (("fill", "more"), (), 0), doc({"p": {"b": {"x": 0}, "a": {}}, "y": 1})), (
            (("p", "a", "x"), field("y"), 0), (("p", "a", "z"), field("y"), 1),
            (("p", "b", "x"), field("p.b.x"), None), (("p", "b", "z"), field("p.b.x"), 1), (("y",), ("literal", 0), 0),
        ))

    def test_unknown_hooks(self):
        self.assertEqual(error_of(origins, LABELS, (("names", "x"), ("y",), 0), ()), ("UnknownHook", "x"))
        self.assertEqual(error_of(origins, LABELS, (("names",), ("y",), 0), ()), ("UnknownHook", "y"))

    def test_every_scalar_is_the_one_of_its_origin(self):
        dice = Dice(91)
        paths = [("a",), ("b",), ("c",), ("a", "b"), ("c", "b")]
        admitted = 0
        for _ in range(600):
            hooks = tuple([
                (name, tuple([dice.rule(paths, [None, None, ("c",)], [(), ("b",)], (True, 7, 8), 0, 2) for _ in "12"]))
                for name in "gh"
            ])
            plan = (tuple([dice.one("gh") for _ in range(4)]), ("g",), dice.dice.randint(0, 4))
            before = dice.document(("a", "b", "c"), 2, range(100, 200))
            status, end, _, _, _, log = run(hooks, plan, before)
            told = origins(hooks, plan, before)
            if status != "admitted":
                self.assertIsNone(told)
                continue
            admitted += 1
            self.assertEqual([path for path, _, _ in told], [path for path, kept in nodes(end) if kept != ("record",)])
            for path, origin, written in told:
                self.check_row(path, origin, written, before, end, log)
        self.assertGreater(admitted, 300)

    def check_row(self, path, origin, written, before, end, log):
        self.assertEqual(origin, origin_by_words(log, path))
        giving = [call for call, _, _, effect in log if effect[1] == path and effect[0] != "remove"]
        self.assertEqual(written, giving[-1] if giving else None)
        if origin[0] == "field":
            self.assertEqual(held(before, origin[1]), held(end, path))
        else:
            put = [effect[2] for call, _, _, effect in log if call == origin[1] and effect[0] in ("set", "default")]
            self.assertIn(held(end, path), put)


if __name__ == "__main__":
    unittest.main()

"""Points 80 to 85: units, plans and runs."""

import itertools
import unittest

from hookcheck.calls import replayed
from hookcheck.documents import document_of
from hookcheck.errors import UnknownHook
from hookcheck.plans import call_unit, outcome, run

from tests.model import call_by_words, run_by_words
from tests.tools import Dice, doc, error_of, hooks_of, nodes_dict, value

STEPS = hooks_of(
    one="when has b then default c from b", two="when has a then default b 1", guard="when a > 5 then reject too-high",
)
# Each call of `up` adds one more field, until there are three of them.
UP = hooks_of(up="when has b then default c 1", low="when has a then default b 1", base="default a 1", none=())
FLIP = hooks_of(flip=("when x = 1 then set y 2", "when x = 2 then set x 1", "when y = 2 then set x 2 and remove y"))
BOTH = hooks_of(there="when x = 1 then set x 2", back="when x = 2 then set x 1", loop="remove z and set z 1")


def filled(path, told):
    return ("default", (path,), value(told), None)


class UnitTest(unittest.TestCase):
    def test_examples(self):
        self.assertEqual(call_unit(STEPS, ("two", "guard"), doc({"a": 6})), ("rejected", 1))
        self.assertEqual(call_unit(STEPS, (), ()), ("done", (), False))

    def test_effects(self):
        self.assertEqual(call_unit(STEPS, ("two", "one"), doc({"a": 0})), ("done", doc({"a": 0, "b": 1, "c": 1}), True))
        self.assertEqual(call_unit(STEPS, ("one", "two"), doc({"a": 0})), ("done", doc({"a": 0, "b": 1}), True))
        self.assertEqual(call_unit(STEPS, ("one", "two"), doc({"x": 0})), ("done", doc({"x": 0}), False))
        self.assertEqual(call_unit(UP, ("none",), doc({"x": 0})), ("done", doc({"x": 0}), False))
        self.assertEqual(call_unit((), (), doc({"x": 0})), ("done", doc({"x": 0}), False))

    def test_an_effect_of_the_first_call_alone(self):
        self.assertEqual(call_unit(UP, ("base", "none"), ()), ("done", doc({"a": 1}), True))
        self.assertEqual(call_unit(UP, ("base", "base"), ()), ("done", doc({"a": 1}), True))

    def test_effects_that_lead_back(self):
        self.assertEqual(call_unit(BOTH, ("loop",), doc({"z": 1})), ("done", doc({"z": 1}), True))
        self.assertEqual(call_unit(BOTH, ("there", "back"), doc({"x": 1})), ("done", doc({"x": 1}), True))
        self.assertEqual(call_unit(BOTH, ("there", "back"), doc({"x": 2})), ("done", doc({"x": 1}), True))

    def test_a_name_twice(self):
        self.assertEqual(
            call_unit(UP, ("up", "low", "up", "up"), doc({"a": 1})), ("done", doc({"a": 1, "b": 1, "c": 1}), True),
        )

    def test_the_place_of_the_hook_that_rejects(self):
        high = doc({"a": 6})
        for unit, place in ((("guard",), 0), (("one", "guard", "two"), 1), (("one", "one", "two", "guard"), 3)):
            self.assertEqual(call_unit(STEPS, unit, high), ("rejected", place))
        self.assertEqual(call_unit(STEPS, ("guard", "guard"), high), ("rejected", 0))

    def test_a_document_that_is_changed_to_one_that_is_rejected(self):
        hooks = hooks_of(high="set a 6", low="set a 5", guard="when a > 5 then reject no")
        self.assertEqual(call_unit(hooks, ("guard", "high", "guard"), ()), ("rejected", 2))
        self.assertEqual(call_unit(hooks, ("high", "low", "guard"), ()), ("done", doc({"a": 5}), True))

    def test_against_single_calls(self):
        dice = Dice(81)
        for _ in range(300):
            hooks = random_hooks(dice)
            unit = tuple([dice.one("abc") for _ in range(dice.dice.randint(0, 4))])
            before = dice.document(("x", "y", "z"), 2, (True, 0, 1))
            self.assertEqual(call_unit(hooks, unit, before), unit_by_words(hooks, unit, before))


def unit_by_words(hooks, unit, before):
    now, effective = nodes_dict(before), False
    for place, name in enumerate(unit):
        done = call_by_words(dict([(hook[0], hook) for hook in hooks])[name], now)
        if done[0] == "rejected":
            return ("rejected", place)
        now, effective = done[1], effective or done[2] != ()
    return ("done", document_of(tuple(now.items())), effective)


def random_hooks(dice):
    paths = [("x",), ("y",), ("z",), ("x", "y")]
    hooks = []
    for name in "abc":
        rules = [dice.rule(paths, [None, None, ("x",)], [(), ("y",)], (True, 0, 1), 0.04, 2) for _ in range(2)]
        hooks.append((name, tuple(rules[:dice.dice.randint(0, 2)])))
    return tuple(hooks)


class UnknownTest(unittest.TestCase):
    def check(self, name, call, *arguments):
        with self.assertRaises(UnknownHook) as caught:
            call(*arguments)
        self.assertEqual(caught.exception.name, name)

    def test_units(self):
        self.check("three", call_unit, STEPS, ("three",), ())
        self.check("three", call_unit, STEPS, ("one", "three", "four"), ())
        self.check("aa", call_unit, STEPS, ("one", "aa", "a", "one"), ())
        self.check("one", call_unit, (), ("one",), ())

    def test_plans(self):
        for call in (run, outcome):
            self.check("x", call, STEPS, (("one", "x", "a"), ("b",), 3), ())
            self.check("b", call, STEPS, (("one",), ("two", "b", "a"), 3), ())
            self.check("z", call, STEPS, (("z",), ("a",), 3), ())
            self.check("x", call, (), (("x",), (), 0), ())

    def test_names_that_would_not_be_called(self):
        high = doc({"a": 9})
        self.check("x", call_unit, STEPS, ("guard", "x"), high)
        for call in (run, outcome):
            self.check("x", call, STEPS, (("guard", "x"), (), 0), high)
            self.check("x", call, STEPS, (("guard",), ("x",), 3), high)
            self.check("x", call, STEPS, ((), ("x",), 0), ())
            self.check("x", call, STEPS, ((), ("one", "guard", "x"), 1), high)
            self.check("x", call, STEPS, (("one",), ("one", "x"), 0), high)

    def test_before_anything_else(self):
        # The hook `one` could not be called at all.
        broken = (("one", None), ("two", ()))
        self.check("x", call_unit, broken, ("one", "x"), ())
        for call in (run, outcome):
            self.check("x", call, broken, (("one",), ("x",), 0), ())
            self.check("x", call, broken, (("one", "x"), (), 1), ())

    def test_reserved_words_and_near_names(self):
        hooks = hooks_of(hook="set a 1")
        self.assertEqual(run(hooks, (("hook",), (), 0), ())[1], doc({"a": 1}))
        self.check("hooks", run, hooks, (("hooks",), (), 0), ())
        self.check("hoo", run, hooks, (("hoo",), (), 0), ())
        self.assertEqual(error_of(run, hooks, (("each",), (), 0), ()), ("UnknownHook", "each"))


class RunTest(unittest.TestCase):
    def test_examples(self):
        log = ((1, "two", 0, filled("b", 1)), (2, "one", 0, ("copy", ("c",), value(1), ("b",))))
        after = doc({"a": 0, "b": 1, "c": 1})
        again = ("one", "two")
        self.assertEqual(run(STEPS, ((), again, 3), doc({"a": 0})), ("admitted", after, 3, 6, None, log))
        self.assertEqual(run(STEPS, ((), again, 2), doc({"a": 0})), ("unsettled", after, 2, 4, None, log))
        self.assertEqual(run(STEPS, (("two", "guard", "one"), (), 0), doc({"a": 6})), (
            "rejected", doc({"a": 6, "b": 1}), 0, 2, (1, "guard", 0, "too-high"), ((0, "two", 0, filled("b", 1)),),
        ))
        self.assertEqual(outcome(STEPS, (("guard",), (), 0), doc({"a": 5})), doc({"a": 5}))

    def test_nothing_is_called(self):
        for plan in (((), (), 0), ((), (), 6), ((), ("base",), 0)):
            self.assertEqual(run(UP, plan, doc({"x": {}})), ("admitted", doc({"x": {}}), 0, 0, None, ()))
        self.assertEqual(run((), ((), (), 2), ()), ("admitted", (), 0, 0, None, ()))

    def test_first_alone(self):
        log = ((0, "base", 0, filled("a", 1)), (1, "low", 0, filled("b", 1)))
        for again, limit in (((), 0), ((), 6), (("up", "low"), 0)):
            self.assertEqual(
                run(UP, (("base", "low", "low"), again, limit), ()),
                ("admitted", doc({"a": 1, "b": 1}), 0, 3, None, log),
            )

    def test_all_limits(self):
        # The passes fill in b, then c, and the third one has no effect.
        for first, calls in (((), 0), (("none",), 1)):
            for limit in range(1, 7):
                status, end, passes, many, rejection, log = run(UP, (first, ("up", "low"), limit), doc({"a": 0}))
                self.assertEqual(status, "unsettled" if limit < 3 else "admitted")
                self.assertEqual(end, doc({"a": 0, "b": 1} if limit == 1 else {"a": 0, "b": 1, "c": 1}))
                self.assertEqual((passes, many, rejection), (min(limit, 3), calls + 2 * min(limit, 3), None))
                told = ((calls + 1, "low", 0, filled("b", 1)), (calls + 2, "up", 0, filled("c", 1)))
                self.assertEqual(log, told[:limit])

    def test_a_limit_in_the_pass_of_rest_and_one_before(self):
        self.assertEqual(run(UP, ((), ("base",), 2), ())[:4], ("admitted", doc({"a": 1}), 2, 2))
        self.assertEqual(run(UP, ((), ("base",), 1), ())[:4], ("unsettled", doc({"a": 1}), 1, 1))
        self.assertEqual(run(UP, ((), ("base",), 1), doc({"a": 1}))[:4], ("admitted", doc({"a": 1}), 1, 1))
        self.assertEqual(run(UP, (("base",), ("base",), 1), ())[:4], ("admitted", doc({"a": 1}), 1, 2))
        self.assertIsNone(outcome(UP, ((), ("base",), 1), ()))
        self.assertEqual(outcome(UP, ((), ("base",), 2), ()), doc({"a": 1}))

    def test_an_effect_of_an_earlier_call_of_a_pass(self):
        self.assertEqual(run(UP, ((), ("base", "none"), 1), ())[:4], ("unsettled", doc({"a": 1}), 1, 2))
        self.assertEqual(run(UP, ((), ("none", "base"), 1), ())[:4], ("unsettled", doc({"a": 1}), 1, 2))
        self.assertEqual(run(UP, ((), ("base", "none"), 2), ())[:4], ("admitted", doc({"a": 1}), 2, 4))

    def test_for_ever(self):
        for limit in range(1, 7):
            told = run(BOTH, ((), ("there", "back"), limit), doc({"x": 1}))
            self.assertEqual(told[:4], ("unsettled", doc({"x": 1}), limit, 2 * limit))
            self.assertEqual(len(told[5]), 2 * limit)
            told = run(BOTH, ((), ("loop",), limit), doc({"z": 1}))
            self.assertEqual(told[:4], ("unsettled", doc({"z": 1}), limit, limit))
        self.assertEqual(run(BOTH, (("there", "back"), ("none",)[:0], 6), doc({"x": 1}))[0], "admitted")

    def test_rejected_in_first(self):
        hooks = hooks_of(ok=(), no=("set z 1", "when a = 1 then reject r0", "when b = 1 then reject r1"), add="set b 1")
        self.assertEqual(
            run(hooks, (("no", "ok"), ("ok",), 3), doc({"a": 1})),
            ("rejected", doc({"a": 1}), 0, 1, (0, "no", 1, "r0"), ()),
        )
        log = ((1, "add", 0, ("set", ("b",), value(1), None)),)
        self.assertEqual(
            run(hooks, (("ok", "add", "no", "ok"), ("ok",), 3), ()),
            ("rejected", doc({"b": 1}), 0, 3, (2, "no", 2, "r1"), log),
        )

    def test_rejected_in_passes(self):
        hooks = hooks_of(
            step=("when has b then default c 1", "when has a then default b 1"),
            no=("default z 1", "when has c then reject r"), early="when has a then reject e",
        )
        first = ((0, "step", 1, filled("b", 1)), (1, "no", 0, filled("z", 1)), (2, "step", 0, filled("c", 1)))
        self.assertEqual(
            run(hooks, ((), ("step", "no"), 6), doc({"a": 0})),
            ("rejected", doc({"a": 0, "b": 1, "c": 1, "z": 1}), 2, 4, (3, "no", 1, "r"), first),
        )
        self.assertEqual(
            run(hooks, ((), ("step", "no"), 1), doc({"a": 0}))[:5],
            ("unsettled", doc({"a": 0, "b": 1, "z": 1}), 1, 2, None),
        )
        self.assertEqual(
            run(hooks, (("step",), ("early", "step"), 6), doc({"a": 0})),
            ("rejected", doc({"a": 0, "b": 1}), 1, 2, (1, "early", 0, "e"), first[:1]),
        )
        for limit in range(1, 7):
            self.assertIsNone(outcome(hooks, (("step",), ("early",), limit), doc({"a": 0})))

    def test_rejected_in_the_last_pass_that_the_limit_allows(self):
        hooks = hooks_of(
            step=("when has b then default c 1", "when has a then default b 1"), no="when has c then reject r",
        )
        told = run(hooks, ((), ("step", "no"), 2), doc({"a": 0}))
        self.assertEqual((told[0], told[2], told[3]), ("rejected", 2, 4))

    def test_names_more_than_once(self):
        self.assertEqual(
            run(UP, (("up", "low", "up"), ("base", "up", "base"), 2), doc({"a": 0})),
            ("admitted", doc({"a": 0, "b": 1, "c": 1}), 1, 6, None, (
                (1, "low", 0, filled("b", 1)), (2, "up", 0, filled("c", 1)),
            )),
        )

    def test_several_rules_and_effects_in_one_call(self):
        told = run(FLIP, ((), ("flip",), 1), doc({"x": 1}))
        self.assertEqual(told, ("unsettled", doc({"x": 2}), 1, 1, None, (
            (0, "flip", 0, ("set", ("y",), value(2), None)), (0, "flip", 2, ("set", ("x",), value(2), None)),
            (0, "flip", 2, ("remove", ("y",), None, None)),
        )))

    def test_runs_by_the_words(self):
        dice = Dice(83)
        seen = {}
        for _ in range(600):
            hooks = random_hooks(dice)
            plan = (
                tuple([dice.one("abc") for _ in range(dice.dice.randint(0, 3))]),
                tuple([dice.one("abc") for _ in range(dice.dice.randint(0, 3))]), dice.dice.randint(0, 6),
            )
            before = dice.document(("x", "y", "z"), 2, (True, 0, 1))
            told = run(hooks, plan, before)
            status, end, *others = run_by_words(hooks, plan, nodes_dict(before))
            self.assertEqual(told, (status, document_of(tuple(end.items())), *others), (hooks, plan, before))
            self.assertEqual(replayed(before, [entry[3] for entry in told[5]]), told[1])
            self.assertEqual(outcome(hooks, plan, before), told[1] if status == "admitted" else None)
            seen[status] = seen.get(status, 0) + 1
        self.assertEqual(sorted(seen), ["admitted", "rejected", "unsettled"])

    def test_all_short_plans(self):
        names = ("there", "back", "loop")
        plans = [tuple(told) for many in range(3) for told in itertools.product(names, repeat=many)]
        for first, again in itertools.product(plans, repeat=2):
            for limit in (0, 1, 3):
                for before in ((), doc({"x": 1}), doc({"x": 2, "z": 1})):
                    status, end, *others = run_by_words(BOTH, (first, again, limit), nodes_dict(before))
                    self.assertEqual(
                        run(BOTH, (first, again, limit), before), (status, document_of(tuple(end.items())), *others),
                    )


if __name__ == "__main__":
    unittest.main()

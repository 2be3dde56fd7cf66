"""Point 140: hook sets."""

import unittest

from hookcheck.documents import compare_documents
from hookcheck.errors import Misfit, ScopeError, UnknownHook
from hookcheck.hooks import HookSet
from hookcheck.parts import misfit
from hookcheck.plans import run
from hookcheck.samples import is_sample
from hookcheck.scopes import count_samples, scope_of

from tests.scope_model import samples_by_words
from tests.tools import Dice, crowded, doc, error_of, hooks_of, random_hook_set, random_plan

PARTS = hooks_of(h="each parts default @.size 1", i="when has parts.main.note then remove parts.main")
GUARDED = hooks_of(
    low=("when a > 5 then set a 5", "default b from a"), none=(), guard=("when b > 9 then reject high",),
)


class HooksTest(unittest.TestCase):
    def check(self, hooks, names, rules):
        hook_set = HookSet(hooks)
        self.assertEqual(hook_set.hooks, hooks)
        self.assertEqual(hook_set.names, names)
        self.assertEqual(hook_set.rules, rules)
        self.assertEqual(hook_set.scope, scope_of(rules))
        self.assertEqual(len(hook_set), len(hooks))
        self.assertEqual(list(hook_set), list(hooks))
        self.assertEqual(list(hook_set), list(hooks))
        self.assertEqual([name in hook_set for name in names], [True] * len(names))
        self.assertEqual([hook_set.hook(name) for name in names], list(hooks))
        self.assertIs("other" in hook_set, False)
        self.check_samples(hook_set)

    def check_samples(self, hook_set):
        samples = hook_set.samples
        self.assertIs(type(samples), tuple)
        self.assertEqual(len(samples), count_samples(hook_set.scope))
        self.assertEqual(sorted(samples, key=repr), sorted(samples_by_words(hook_set.scope), key=repr))
        for one, other in zip(samples, samples[1:]):
            self.assertEqual(compare_documents(one, other), -1)

    def test_no_hooks(self):
        self.check((), (), ())
        self.assertEqual(HookSet(()).samples, ((),))
        self.assertEqual(HookSet(()).scope, ((), (), ()))
        self.assertIs("a" in HookSet(()), False)
        self.assertEqual(HookSet(()).run(((), (), 6), doc({"a": {"b": 1}}))[:4], ("admitted", doc({"a": {"b": 1}}), 0, 0))

    def test_hooks_without_rules(self):
        hooks = hooks_of(b=(), a=())
        self.check(hooks, ("b", "a"), ())
        self.assertEqual(HookSet(hooks).samples, ((),))

    def test_hooks_that_only_reject(self):
        hooks = hooks_of(no="reject always")
        self.check(hooks, ("no",), hooks[0][1])
        self.assertEqual(HookSet(hooks).samples, ((),))

    def test_one_hook(self):
        hooks = hooks_of(h="when has a then remove b")
        self.check(hooks, ("h",), hooks[0][1])
        self.assertEqual(HookSet(hooks).samples, ((), doc({"a": None}), doc({"b": None}), doc({"a": None, "b": None})))

    def test_several_hooks(self):
        self.check(GUARDED, ("low", "none", "guard"), GUARDED[0][1] + GUARDED[2][1])

    def test_a_collection(self):
        self.check(PARTS, ("h", "i"), PARTS[0][1] + PARTS[1][1])
        self.assertEqual(len(HookSet(PARTS).samples), 53)

    def test_a_reserved_word_as_a_name(self):
        hooks = hooks_of(hook="default x 1", each="default y 1")
        self.check(hooks, ("hook", "each"), hooks[0][1] + hooks[1][1])

    def test_it_never_changes(self):
        hook_set = HookSet(PARTS)
        told = (hook_set.hooks, hook_set.names, hook_set.rules, hook_set.scope, hook_set.samples)
        hook_set.run((("h",), ("i",), 3), doc({"parts": {"x": {}}}))
        error_of(hook_set.run, (("j",), (), 0), ())
        error_of(hook_set.check, doc({"parts": 1}))
        self.assertEqual(told, (hook_set.hooks, hook_set.names, hook_set.rules, hook_set.scope, hook_set.samples))
        for name in ("hooks", "names", "rules", "scope", "samples"):
            with self.assertRaises(AttributeError):
                setattr(hook_set, name, ())

    def test_random_hook_sets(self):
        dice = Dice(140)
        for _ in range(40):
            hook_set = random_hook_set(dice)
            self.check(hook_set.hooks, hook_set.names, hook_set.rules)


class ScopeErrorTest(unittest.TestCase):
    def test_overlap(self):
        hooks = hooks_of(a="each p set @.x 1", b="each p.q set @.x 1")
        self.assertEqual(error_of(HookSet, hooks), ("ScopeError", "overlap", ("p",)))

    def test_kinds_over_several_hooks(self):
        hooks = hooks_of(a="when has a.b then remove c", b="set a 1")
        self.assertEqual(error_of(HookSet, hooks), ("ScopeError", "kinds", ("a",)))
        self.assertIsNone(error_of(HookSet, hooks[:1]))
        self.assertIsNone(error_of(HookSet, hooks[1:]))

    def test_samples(self):
        texts = ["when " + " and ".join([f"has {key}" for key in keys]) + " then reject no" for keys in ("stuv", "wxy")]
        self.assertEqual(len(HookSet(hooks_of(a=texts)).samples), 128)
        self.assertEqual(error_of(HookSet, hooks_of(a=texts, b="remove z")), ("ScopeError", "samples", ()))

    def test_the_class(self):
        self.assertRaises(ScopeError, HookSet, hooks_of(a="when has a.b then set a 1"))


class HookTest(unittest.TestCase):
    def test_hook(self):
        self.assertEqual(HookSet(PARTS).hook("i"), PARTS[1])
        self.assertEqual(HookSet(GUARDED).hook("none"), ("none", ()))

    def test_unknown(self):
        self.assertEqual(error_of(HookSet(PARTS).hook, "j"), ("UnknownHook", "j"))
        self.assertEqual(error_of(HookSet(()).hook, "a"), ("UnknownHook", "a"))
        self.assertRaises(UnknownHook, HookSet(PARTS).hook, "parts")


class CheckTest(unittest.TestCase):
    def test_documents_that_fit(self):
        for told in ({}, {"parts": {"main": {"note": {}}, "x": {"other": {"deep": 1}}}, "owner": {}}):
            self.assertIsNone(HookSet(PARTS).check(doc(told)))

    def test_misfits(self):
        hook_set = HookSet(PARTS)
        self.assertEqual(error_of(hook_set.check, doc({"parts": True})), ("Misfit", "record", ("parts",)))
        self.assertEqual(
            error_of(hook_set.check, doc({"parts": {"x": {"size": {}}, "b": 1}})),
            ("Misfit", "record", ("parts", "b")),
        )
        self.assertRaises(Misfit, hook_set.check, doc({"parts": {"main": {"size": {}}}}))

    def test_random_documents(self):
        dice = Dice(121)
        fitting = 0
        for _ in range(300):
            hook_set = random_hook_set(dice)
            document = crowded(dice, hook_set.scope)
            wrong = misfit(hook_set.scope, document)
            fitting += wrong is None
            self.assertEqual(error_of(hook_set.check, document), None if wrong is None else ("Misfit",) + wrong)
        self.assertGreater(fitting, 20)
        self.assertLess(fitting, 280)


class RunTest(unittest.TestCase):
    def test_runs(self):
        hook_set = HookSet(GUARDED)
        for told in ({}, {"a": 6}, {"a": 1, "b": 3}, {"b": 10, "c": {}}, {"a": True}):
            for plan in ((("low",), (), 0), ((), ("low",), 1), (("guard",), ("low", "none"), 6), ((), (), 0)):
                self.assertEqual(hook_set.run(plan, doc(told)), run(GUARDED, plan, doc(told)))

    def test_random_runs(self):
        dice = Dice(84)
        for _ in range(200):
            hook_set = random_hook_set(dice)
            plan = random_plan(dice, hook_set.names)
            document = crowded(dice, hook_set.scope)
            wrong = misfit(hook_set.scope, document)
            if wrong is None:
                self.assertEqual(hook_set.run(plan, document), run(hook_set.hooks, plan, document))
            else:
                self.assertEqual(error_of(hook_set.run, plan, document), ("Misfit",) + wrong)

    def test_unknown_names_ahead_of_misfits(self):
        hook_set = HookSet(PARTS)
        wrong = doc({"parts": True})
        for first, again, limit, name in (
            (("h", "j"), ("k",), 3, "j"), (("h",), ("k", "j"), 3, "k"), ((), ("k",), 0, "k"), (("j", "k"), (), 0, "j"),
        ):
            self.assertEqual(error_of(hook_set.run, (first, again, limit), wrong), ("UnknownHook", name))
            self.assertEqual(error_of(hook_set.run, (first, again, limit), ()), ("UnknownHook", name))
        self.assertEqual(error_of(hook_set.run, (("h",), (), 0), wrong), ("Misfit", "record", ("parts",)))

    def test_misfits_without_any_call(self):
        self.assertEqual(error_of(HookSet(PARTS).run, ((), (), 0), doc({"parts": 1})), ("Misfit", "record", ("parts",)))


class SamplesTest(unittest.TestCase):
    def test_each_is_a_sample_and_fits(self):
        hook_set = HookSet(PARTS)
        self.assertEqual(hook_set.samples[:3], ((), doc({"parts": {}}), doc({"parts": {"a": {}}})))
        for sample in hook_set.samples:
            self.assertTrue(is_sample(hook_set.scope, sample))
            self.assertIsNone(hook_set.check(sample))


if __name__ == "__main__":
    unittest.main()

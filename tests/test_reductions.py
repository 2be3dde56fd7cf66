"""Points 190 to 193: the same outcomes, least sets, shortest calls, and which hooks to call again."""

import itertools
import unittest

from hookcheck.documents import compare_documents, document_of
from hookcheck.errors import UnknownHook
from hookcheck.hooks import HookSet
from hookcheck.parts import misfit
from hookcheck.plans import outcome, run
from hookcheck.questions import compare_plans
from hookcheck.reductions import call_again, first_restless, least_set, same_outcomes, shortest_calls

from tests.model import run_by_words
from tests.tools import (
    EACH_TEXTS, TEXTS, Dice, contrary_hooks, crowded, doc, error_of, hooks_of, is_effective, nodes_dict,
    random_hook_set, random_names, random_plan,
)

FIXED = HookSet(hooks_of(
    mirror='each spec.containers when @.image = "proxy" then set @.image "local/proxy"',
    sidecar='when spec.mesh = true then default spec.containers.proxy.image "proxy"',
))
AGAIN = (("mirror", "sidecar"), ("mirror",), 3)
THREE = HookSet(hooks_of(a="default x 1", b="default x 2", c="when x = 2 then set y 1"))
UP_DOWN = HookSet(hooks_of(up="when x = 1 then set x 2", down="when x = 2 then set x 1"))
# Each hook has to be called behind the next one, so one has to call them often, or from the last one on.
STEPS = HookSet(hooks_of(a="when b = 1 then default a 1", b="when c = 1 then default b 1", c="when d = 1 then default c 1"))
NONE = HookSet(())


def mixed_hook_set(dice):
    return random_hook_set(dice, 30, 4) if dice.chance(0.3) else contrary_hooks(dice, TEXTS + EACH_TEXTS)


def outcomes_by_words(hook_set, plan):
    """The outcomes of the samples."""
    found = []
    for sample in hook_set.samples:
        status, now, _, _, _, _ = run_by_words(hook_set.hooks, plan, nodes_dict(sample))
        found.append(document_of(tuple(now.items())) if status == "admitted" else None)
    return found


def without_names(plan, names):
    """The plan without some names."""
    first, again, limit = plan
    left = [tuple([name for name in called if name not in names]) for called in (first, again)]
    return (left[0], left[1], limit)


def sets_by_words(hook_set, names):
    """All sets of the names, in their order."""
    ordered = [name for name in hook_set.names if name in names]
    return [told for many in range(len(ordered) + 1) for told in itertools.combinations(ordered, many)]


def least_by_words(hook_set, plan):
    names = set(plan[0] + plan[1])
    wanted = outcomes_by_words(hook_set, plan)
    for told in sets_by_words(hook_set, names):
        if outcomes_by_words(hook_set, without_names(plan, names - set(told))) == wanted:
            return told
    return None


def shortest_by_words(hook_set, plan, most):
    wanted = outcomes_by_words(hook_set, plan)
    for many in range(most + 1):
        for told in itertools.product(hook_set.names, repeat=many):
            if outcomes_by_words(hook_set, (told, (), 0)) == wanted:
                return told
    return None


def is_restless(hook_set, names, again, limit, document):
    status, end, _, _, _, _ = run(hook_set.hooks, (names, again, limit), document)
    if status == "admitted":
        return any(is_effective(hook_set.hooks, name, end) for name in names)
    return status == "unsettled"


def restless_by_words(hook_set, names, again, limit):
    found = [one for one in hook_set.samples if is_restless(hook_set, names, again, limit, one)]
    return found[0] if found else None


class SameTest(unittest.TestCase):
    def check(self, hook_set, plan, other, told):
        self.assertIs(same_outcomes(hook_set, plan, other), told)
        self.assertIs(same_outcomes(hook_set, other, plan), told)
        self.assertIs(same_outcomes(hook_set, plan, plan), True)

    def test_examples(self):
        self.check(FIXED, AGAIN, (("sidecar", "mirror"), (), 0), True)
        self.check(FIXED, AGAIN, (("mirror", "sidecar"), (), 0), False)

    def test_empty_plans(self):
        self.check(NONE, ((), (), 0), ((), (), 6), True)
        self.check(THREE, ((), (), 3), ((), ("a",), 0), True)
        self.check(THREE, ((), (), 3), ((), ("a",), 2), False)

    def test_rejected_and_unsettled_documents_have_none(self):
        hook_set = HookSet(hooks_of(no="when x = 1 then reject no", loop="when x = 1 then remove y and set y 1"))
        self.check(hook_set, (("no",), (), 0), ((), ("loop",), 6), True)
        self.check(hook_set, (("no",), (), 0), (("loop",), (), 0), False)

    def test_the_limit(self):
        for limit in range(7):
            self.check(STEPS, ((), ("a", "b", "c"), limit), (("c", "b", "a"), (), 0), limit > 3)

    def test_random_plans(self):
        dice = Dice(190)
        some = [0, 0]
        for _ in range(120):
            hook_set = random_hook_set(dice, 40, 3)
            plan, other = random_plan(dice, hook_set.names), random_plan(dice, hook_set.names)
            told = outcomes_by_words(hook_set, plan) == outcomes_by_words(hook_set, other)
            some[told] += 1
            self.check(hook_set, plan, other, told)
            self.assertEqual(compare_plans(hook_set, plan, hook_set, other) is None, told)
            document = crowded(dice, hook_set.scope)
            if told and misfit(hook_set.scope, document) is None:
                ends = [outcome(hook_set.hooks, one, document) for one in (plan, other)]
                self.assertEqual(ends[0], ends[1])
        self.assertGreater(min(some), 20)

    def test_unknown(self):
        good = (("a",), (), 0)
        for plan, other, name in (
            ((("a", "x"), ("y",), 0), (("z",), (), 0), "x"), ((("a",), ("y",), 0), (("z",), (), 0), "y"),
            (good, (("z",), ("w",), 0), "z"), (good, (("a",), ("b", "w"), 0), "w"),
        ):
            self.assertEqual(error_of(same_outcomes, THREE, plan, other), ("UnknownHook", name))
        self.assertRaises(UnknownHook, same_outcomes, NONE, ((), (), 0), good)


class LeastTest(unittest.TestCase):
    def test_example(self):
        self.assertEqual(least_set(THREE, (("a", "b", "c"), (), 0)), ("a", "c"))

    def test_no_names(self):
        self.assertEqual(least_set(THREE, ((), (), 6)), ())
        self.assertEqual(least_set(NONE, ((), (), 6)), ())
        self.assertEqual(least_set(THREE, ((), ("a", "b", "c"), 0)), ())
        self.assertEqual(least_set(HookSet(hooks_of(a=(), b="when x > 5 and x < 6 then set y 1")), (("a", "b"), (), 0)), ())

    def test_one_name(self):
        self.assertEqual(least_set(THREE, (("b",), (), 0)), ("b",))
        same = HookSet(hooks_of(a="default x 1", b="when not has x then set x 1"))
        self.assertEqual(least_set(same, (("b", "a"), (), 0)), ("a",))
        self.assertEqual(least_set(same, (("b",), (), 0)), ("b",))

    def test_several_names(self):
        self.assertEqual(least_set(THREE, (("b", "c"), (), 0)), ("b", "c"))
        self.assertEqual(least_set(THREE, (("c", "b", "a"), (), 0)), ("b", "c"))
        self.assertEqual(least_set(STEPS, ((), ("a", "b", "c"), 6)), ("a", "b", "c"))

    def test_names_more_than_once(self):
        self.assertEqual(least_set(THREE, (("a", "c", "b", "a", "c"), ("c", "a"), 3)), ("a", "c"))
        self.assertEqual(least_set(STEPS, (("a", "b", "c", "a", "b", "a"), (), 0)), ("a", "b", "c"))
        self.assertEqual(least_set(STEPS, (("a", "a"), ("a",), 3)), ("a",))

    def test_passes_that_are_not_needed(self):
        self.assertEqual(least_set(FIXED, (("sidecar", "mirror"), ("mirror",), 3)), ("mirror", "sidecar"))
        self.assertEqual(least_set(UP_DOWN, ((), ("up", "down"), 6)), ("up", "down"))
        # Without hooks that are called again, nothing is left unsettled.
        loop = HookSet(hooks_of(a="set x 1", b="remove x"))
        self.assertEqual(least_set(loop, (("a",), ("b", "a"), 2)), ("a", "b"))

    def test_the_first_of_the_sets(self):
        four = HookSet(hooks_of(a="default x 1", b="default y 1", c="default x 1", d="default y 1"))
        self.assertEqual(least_set(four, (("a", "b", "c", "d"), (), 0)), ("a", "b"))
        self.assertEqual(least_set(four, (("d", "c", "b"), (), 0)), ("b", "c"))
        self.assertEqual(least_set(four, (("c", "a", "d"), (), 0)), ("a", "d"))
        self.assertEqual(least_set(four, (("d", "c"), (), 0)), ("c", "d"))

    def test_random_plans(self):
        dice = Dice(191)
        sizes = {}
        for _ in range(120):
            hook_set = mixed_hook_set(dice)
            plan = random_plan(dice, hook_set.names)
            told = least_set(hook_set, plan)
            self.assertEqual(told, least_by_words(hook_set, plan))
            sizes[len(told)] = sizes.get(len(told), 0) + 1
        self.assertGreater(min(sizes[size] for size in range(3)), 5)

    def test_unknown(self):
        for plan, name in (((("a", "x"), ("y",), 0), "x"), (((), ("a", "y"), 0), "y")):
            self.assertEqual(error_of(least_set, THREE, plan), ("UnknownHook", name))
            self.assertEqual(error_of(shortest_calls, THREE, plan, 3), ("UnknownHook", name))
            self.assertEqual(error_of(shortest_calls, THREE, plan, 0), ("UnknownHook", name))


class ShortestTest(unittest.TestCase):
    def test_example(self):
        self.assertEqual(shortest_calls(FIXED, AGAIN, 3), ("sidecar", "mirror"))
        self.assertEqual(shortest_calls(FIXED, AGAIN, 2), ("sidecar", "mirror"))
        self.assertIsNone(shortest_calls(FIXED, AGAIN, 1))
        self.assertIsNone(shortest_calls(FIXED, AGAIN, 0))

    def test_no_calls(self):
        for most in range(4):
            self.assertEqual(shortest_calls(THREE, ((), (), 6), most), ())
            self.assertEqual(shortest_calls(NONE, ((), (), 6), most), ())
            self.assertEqual(shortest_calls(THREE, ((), ("a", "b"), 0), most), ())

    def test_each_greatest_length(self):
        plan = ((), ("a", "b", "c"), 6)
        self.assertEqual([shortest_calls(STEPS, plan, most) for most in range(4)], [None] * 3 + [("c", "b", "a")])
        plan = ((), ("a", "b"), 6)
        self.assertEqual([shortest_calls(STEPS, plan, most) for most in range(4)], [None] * 2 + [("b", "a")] * 2)
        plan = (("b",) * 6, (), 0)
        self.assertEqual([shortest_calls(STEPS, plan, most) for most in range(4)], [None] + [("b",)] * 3)

    def test_a_name_twice(self):
        hook_set = HookSet(hooks_of(a=("when x = 2 then set x 3", "when x = 1 then set x 2")))
        self.assertEqual(shortest_calls(hook_set, ((), ("a",), 4), 3), ("a", "a"))
        self.assertIsNone(shortest_calls(hook_set, ((), ("a",), 4), 1))

    def test_hooks_that_are_not_in_the_plan(self):
        hook_set = HookSet(hooks_of(a=("default x 1", "default y 1"), b="default x 1", c="default y 1"))
        self.assertEqual(shortest_calls(hook_set, (("b", "c"), (), 0), 3), ("a",))
        self.assertEqual(shortest_calls(hook_set, (("c", "b"), (), 0), 1), ("a",))
        self.assertEqual(shortest_calls(hook_set, (("c",), (), 0), 1), ("c",))

    def test_the_first_of_the_sequences(self):
        four = HookSet(hooks_of(a="default x 1", b="default y 1", c="default x 1", d="default y 1"))
        self.assertEqual(shortest_calls(four, (("d", "c"), (), 0), 3), ("a", "b"))
        order = HookSet(hooks_of(b="default x 1", a="when not has x then set x 1"))
        self.assertEqual(shortest_calls(order, (("a",), (), 0), 3), ("b",))

    def test_unsettled_documents(self):
        self.assertIsNone(shortest_calls(UP_DOWN, ((), ("up", "down"), 6), 3))
        no = HookSet(hooks_of(loop="remove x and set x 1", no="reject no"))
        self.assertEqual(shortest_calls(no, ((), ("loop",), 6), 3), ("no",))

    def test_random_plans(self):
        dice = Dice(192)
        sizes = {}
        for _ in range(120):
            hook_set = mixed_hook_set(dice)
            plan = random_plan(dice, hook_set.names)
            most = dice.dice.randint(0, 3)
            told = shortest_calls(hook_set, plan, most)
            self.assertEqual(told, shortest_by_words(hook_set, plan, most))
            size = None if told is None else len(told)
            sizes[size] = sizes.get(size, 0) + 1
        self.assertGreater(min(sizes[size] for size in (None, 0, 1, 2)), 2)


class RestlessTest(unittest.TestCase):
    def check(self, hook_set, names, again, limit, told):
        self.assertEqual(first_restless(hook_set, names, again, limit), None if told is None else doc(told))

    def test_example(self):
        self.check(FIXED, ("mirror", "sidecar"), (), 3, {"spec": {"mesh": True}})
        self.check(FIXED, ("mirror", "sidecar"), ("mirror",), 3, None)
        self.check(FIXED, ("mirror", "sidecar"), ("mirror",), 1, {"spec": {"mesh": True}})
        self.check(FIXED, ("sidecar", "mirror"), (), 3, None)

    def test_unsettled(self):
        for limit in range(1, 7):
            self.check(UP_DOWN, (), ("up", "down"), limit, {"x": 1})
            self.check(UP_DOWN, ("up",), ("up", "down"), limit, {"x": 1})
        self.check(UP_DOWN, (), ("up",), 1, {"x": 1})
        self.check(UP_DOWN, (), ("up",), 2, None)

    def test_admitted_and_then_changed(self):
        self.check(UP_DOWN, ("up", "down"), (), 0, {"x": 1})
        self.check(UP_DOWN, ("down", "up"), (), 0, {"x": 1})
        self.check(UP_DOWN, ("up",), (), 0, None)
        self.check(THREE, ("c", "b"), (), 0, {})
        self.check(THREE, ("b", "c"), (), 0, None)

    def test_admitted_and_then_rejected(self):
        hook_set = HookSet(hooks_of(no="when x = 2 then reject two", set="when x = 1 then set x 2"))
        self.check(hook_set, ("no", "set"), (), 0, {"x": 1})
        self.check(hook_set, ("set", "no"), (), 0, None)
        self.check(hook_set, ("no", "set"), ("no",), 1, None)

    def test_a_call_that_leads_back(self):
        hook_set = HookSet(hooks_of(h="when x = 1 then remove x and set x 1"))
        self.check(hook_set, ("h",), (), 0, {"x": 1})
        self.check(hook_set, ("h",), ("h",), 6, {"x": 1})
        self.check(hook_set, (), (), 0, None)

    def test_again_with_names_that_names_has_not(self):
        self.check(UP_DOWN, ("up",), ("down",), 3, {"x": 1})
        self.check(UP_DOWN, ("down",), ("up",), 3, {"x": 1})
        self.check(STEPS, ("a",), ("b",), 3, {"c": 1})
        self.check(STEPS, ("a",), ("b", "a"), 3, None)
        self.check(STEPS, (), ("c", "b"), 3, None)

    def test_a_limit_of_0(self):
        # No passes are made; calls of the names count, calls of others do not.
        self.check(UP_DOWN, ("up",), ("down",), 0, None)
        self.check(UP_DOWN, (), ("up", "down"), 0, None)
        self.check(STEPS, ("a", "b"), ("b", "a"), 0, {"c": 1})
        self.check(STEPS, ("b", "a"), ("a", "b"), 0, None)

    def test_hooks_that_are_called_again_are_looked_at_too(self):
        # Without passes a hook of names counts whether it is one of again or not.
        self.check(UP_DOWN, ("up", "down"), ("up", "down"), 0, {"x": 1})

    def test_no_names(self):
        self.check(NONE, (), (), 6, None)
        self.check(UP_DOWN, (), (), 6, None)

    def test_random_names(self):
        dice = Dice(193)
        some = [0, 0]
        for _ in range(150):
            hook_set = mixed_hook_set(dice)
            names = tuple(dict.fromkeys(random_names(dice, hook_set.names, 4)))
            again = tuple(dict.fromkeys(random_names(dice, hook_set.names, 3)))
            limit = dice.dice.randint(0, 6)
            told = first_restless(hook_set, names, again, limit)
            self.assertEqual(told, restless_by_words(hook_set, names, again, limit))
            some[told is None] += 1
            document = crowded(dice, hook_set.scope)
            if misfit(hook_set.scope, document) is None and is_restless(hook_set, names, again, limit, document):
                self.assertLessEqual(compare_documents(told, document), 0)
        self.assertGreater(min(some), 20)

    def test_unknown(self):
        for names, again, name in ((("up", "x"), ("y",), "x"), (("up",), ("y", "z"), "y"), ((), ("down", "z"), "z")):
            for limit in (0, 3):
                self.assertEqual(error_of(first_restless, UP_DOWN, names, again, limit), ("UnknownHook", name))


class AgainTest(unittest.TestCase):
    def test_examples(self):
        self.assertEqual(call_again(FIXED, ("mirror", "sidecar"), 3), ("mirror",))
        self.assertIsNone(call_again(UP_DOWN, ("up", "down"), 6))

    def test_none_needed(self):
        for limit in range(7):
            self.assertEqual(call_again(FIXED, ("sidecar", "mirror"), limit), ())
            self.assertEqual(call_again(NONE, (), limit), ())
            self.assertEqual(call_again(UP_DOWN, (), limit), ())

    def test_limits(self):
        told = [call_again(FIXED, ("mirror", "sidecar"), limit) for limit in range(7)]
        self.assertEqual(told, [None, None] + [("mirror",)] * 5)
        told = [call_again(STEPS, ("a", "b", "c"), limit) for limit in range(7)]
        self.assertEqual(told, [None, None, None] + [("a", "b")] * 4)

    def test_the_order_of_the_hooks(self):
        self.assertEqual(call_again(STEPS, ("b", "a", "c"), 3), ("a", "b"))
        self.assertEqual(call_again(STEPS, ("b", "c", "a"), 3), ("a", "b"))
        self.assertEqual(call_again(STEPS, ("a", "c", "b"), 3), ("a",))

    def test_a_hook_that_rejects(self):
        hook_set = HookSet(hooks_of(no="when x = 2 then reject two", set="when x = 1 then set x 2"))
        self.assertEqual(call_again(hook_set, ("no", "set"), 1), ("no",))
        self.assertIsNone(call_again(hook_set, ("no", "set"), 0))

    def test_random_names(self):
        dice = Dice(1930)
        sizes = {}
        for _ in range(150):
            hook_set = mixed_hook_set(dice)
            names = dice.dice.sample(hook_set.names, dice.dice.randint(0, len(hook_set.names)))
            limit = dice.dice.randint(0, 4)
            told = call_again(hook_set, tuple(names), limit)
            wanted = [
                chosen for chosen in sets_by_words(hook_set, names)
                if restless_by_words(hook_set, tuple(names), chosen, limit) is None
            ]
            self.assertEqual(told, wanted[0] if wanted else None)
            size = None if told is None else len(told)
            sizes[size] = sizes.get(size, 0) + 1
        self.assertGreater(min(sizes[size] for size in (None, 0, 1)), 2)

    def test_unknown(self):
        for names, name in ((("up", "x", "y"), "x"), (("z",), "z")):
            for limit in (0, 3):
                self.assertEqual(error_of(call_again, UP_DOWN, names, limit), ("UnknownHook", name))


if __name__ == "__main__":
    unittest.main()

"""Points 150 to 154: where plans differ, violations of claims, passes, and rules that act or are idle."""

import unittest

from hookcheck.conditions import breaches
from hookcheck.documents import compare_documents, document_of
from hookcheck.errors import ScopeError
from hookcheck.hooks import HookSet
from hookcheck.parts import misfit
from hookcheck.plans import outcome, run
from hookcheck.questions import (
    compare_plans, count_passes, find_idle, find_violation, first_acts, list_differences,
)
from hookcheck.reader import read_claim
from hookcheck.samples import is_sample
from hookcheck.scopes import count_samples, scope_of

from tests.model import run_by_words
from tests.scope_model import samples_by_words
from tests.tools import (
    Dice, all_documents, crowded, doc, error_of, first_of, hooks_of, nodes_dict, random_hook_set, random_names,
    random_plan,
)

H = (("h",), (), 0)
CLAIMS = (
    "each p @ > 4 or has q.b", "each p not has @.x", "has q.b or p.a.x = 5", "not r = 5", "each q has @ and not @ = 0",
    "each r.p has @.y or has p", 'not q.b = "t"', "each p.a not @ > 5",
)
SMALL = all_documents(("a", "b"), 2, (None, False, 1, 2))


def hook_set(**rules):
    return HookSet(hooks_of(**rules))


def outcome_by_words(hooks, plan, document):
    status, now, _, _, _, _ = run_by_words(hooks, plan, nodes_dict(document))
    return document_of(tuple(now.items())) if status == "admitted" else None


def ascending(scope):
    """All samples by the second version of their point, in the order of documents."""
    left = samples_by_words(scope)
    found = []
    while left:
        found.append(first_of(left))
        left.remove(found[-1])
    return found


def small_hook_set(dice, collections):
    """A hook set of two hooks over small documents."""
    paths = [("a",), ("b",), ("a", "a"), ("a", "b"), ("b", "a")]
    while True:
        some = [None] + [one for one in collections if dice.chance(0.7)]
        rules = [dice.rule(dice.dice.sample(paths, 2), some, [(), ("a",)], (1,), 0.1, 2) for _ in range(3)]
        try:
            return HookSet((("h", (rules[0],)), ("i", (rules[1], rules[2]))))
        except ScopeError:
            continue


class CompareTest(unittest.TestCase):
    def check(self, one, plan, other, other_plan, *told):
        """The samples of both for which they differ are these."""
        expected = tuple([doc(document) for document in told])
        first = expected[0] if expected else None
        self.assertEqual(compare_plans(one, plan, other, other_plan), first)
        self.assertEqual(compare_plans(other, other_plan, one, plan), first)
        for many in range(21):
            self.assertEqual(list_differences(one, plan, other, other_plan, many), expected[:many])

    def test_example(self):
        five, six = hook_set(h="when x > 5 then set y 1"), hook_set(h="when x > 6 then set y 1")
        self.check(five, H, six, H, {"x": 6}, {"x": 6, "y": None})

    def test_the_same_outcomes(self):
        one = hook_set(h="when x > 5 then set y 1", i="when y = 1 then default z 2")
        self.check(one, H, one, H)
        self.check(one, (("h", "i"), (), 0), one, (("h",), ("i",), 2))
        self.check(one, H, hook_set(h=("when x > 5 and not y = 1 then set y 1", "when q > 2 and q < 3 then remove y")), H)

    def test_two_plans_of_one_hook_set(self):
        one = hook_set(h="default x 1", i="default x 2")
        self.check(one, (("h", "i"), (), 0), one, (("i", "h"), (), 0), {})
        self.check(one, (("h", "i"), (), 0), one, ((), (), 0), {})
        self.check(one, ((), ("h",), 1), one, (("h",), (), 0), {})

    def test_rejected_and_unsettled_documents_have_the_same_outcome(self):
        no = hook_set(h="when x = 1 then reject no")
        loop = hook_set(h="when x = 1 then remove y and set y 1")
        self.check(no, H, loop, ((), ("h",), 6))
        self.check(no, H, loop, H, {"x": 1}, {"x": 1, "y": None}, {"x": 1, "y": 1})
        self.check(no, H, no, ((), (), 0), {"x": 1})

    def test_documents_at_the_end_of_the_same_content_apart_from_null(self):
        one = hook_set(h="when has x then remove y")
        self.check(one, H, one, ((), (), 0), {"x": None, "y": None})

    def test_the_scope_of_both(self):
        # With the first rules alone a record at x would fit, too, and y would have two members fewer.
        one, other = hook_set(h="remove x"), hook_set(h=("remove x", "default x from y", "when y > 3 then remove y"))
        found = list_differences(one, H, other, H, 20)
        scope = scope_of(one.rules + other.rules)
        self.assertEqual(found[0], doc({"y": None}))
        self.assertIn(doc({"x": False, "y": 5}), found)
        self.assertTrue(all(is_sample(scope, sample) for sample in found))

    def test_more_samples_than_each_hook_set_has(self):
        one, other = hook_set(h="when x > 5 then remove y"), hook_set(h="when x > 9 then remove y")
        scope = scope_of(one.rules + other.rules)
        self.assertGreater(count_samples(scope), max(len(one.samples), len(other.samples)))
        self.assertEqual(list_differences(one, H, other, H, 20), (doc({"x": 6, "y": None}),))

    def test_second_members_of_pools(self):
        # Only with different scalars, which pass the same tests, it shows where z was copied from.
        one, other = hook_set(h="default z from x"), hook_set(h="default z from y")
        same = HookSet(one.hooks)
        self.check(one, H, same, H)
        both = list_differences(one, H, other, H, 20)
        self.assertEqual(both[:3], (doc({"x": None}), doc({"x": False}), doc({"y": None})))
        self.assertIn(doc({"x": None, "y": False}), both)
        self.assertNotIn(doc({"x": None, "y": None}), both)

    def test_a_collection(self):
        one, other = hook_set(h="each p when @.n > 3 then set @.m 1"), hook_set(h="each p when @.n > 4 then set @.m 1")
        self.check(one, H, other, H, {"p": {"a": {"n": 4}}}, {"p": {"a": {"m": None, "n": 4}}})
        self.check(hook_set(h="each p remove @"), H, hook_set(h="remove p.m", i="each p remove @"), H,
                   {"p": {"a": None}}, {"p": {"a": None, "m": None}})

    def test_no_hooks(self):
        none = HookSet(())
        self.check(none, ((), (), 0), none, ((), (), 3))
        self.check(none, ((), (), 0), hook_set(h="default x 1"), H, {})
        self.check(none, ((), (), 0), hook_set(h="reject no"), H, {})

    def test_more_than_twenty(self):
        rules = ["when has a and has b and has c and has d and has e then reject no", "set x 1"]
        one = hook_set(h=rules)
        found = list_differences(one, H, one, ((), (), 0), 20)
        self.assertEqual(len(found), 20)
        self.assertEqual(found[:2], ((), doc({"a": None})))
        self.assertEqual(list_differences(one, H, one, ((), (), 0), 7), found[:7])

    def test_random_plans_against_all_samples(self):
        dice = Dice(151)
        some = 0
        for _ in range(100):
            one = random_hook_set(dice, 60, 3)
            other = one if dice.chance(0.5) else random_hook_set(dice, 60, 2)
            plan, other_plan = random_plan(dice, one.names), random_plan(dice, other.names)
            try:
                scope = scope_of(one.rules + other.rules)
            except ScopeError as error:
                for many in (0, 20):
                    told = error_of(list_differences, one, plan, other, other_plan, many)
                    self.assertEqual(told, ("ScopeError", error.reason, error.path))
                continue
            wanted = [
                sample for sample in ascending(scope)
                if outcome_by_words(one.hooks, plan, sample) != outcome_by_words(other.hooks, other_plan, sample)
            ]
            some += wanted != []
            for many in (0, 1, 2, 20):
                found = list_differences(one, plan, other, other_plan, many)
                self.assertEqual(found, tuple(wanted[:many]))
            self.assertEqual(compare_plans(one, plan, other, other_plan), wanted[0] if wanted else None)
        self.assertGreater(some, 20)

    def test_no_earlier_document_differs(self):
        dice = Dice(1510)
        plan = ((), ("h", "i"), 3)
        some = 0
        while some < 8:
            collections = [[], [("a",)], [("b",)]][some % 3]
            one, other = small_hook_set(dice, collections), small_hook_set(dice, collections)
            if error_of(compare_plans, one, plan, other, plan) is None:
                first = compare_plans(one, plan, other, plan)
                some += bool(first)
                self.check_earlier(first, one, other, plan)

    def check_earlier(self, first, one, other, plan):
        scope = scope_of(one.rules + other.rules)
        for document in SMALL:
            if first is None or compare_documents(document, first) < 0:
                if misfit(scope, document) is None:
                    self.assertEqual(outcome(one.hooks, plan, document), outcome(other.hooks, plan, document))

    def test_large_documents_that_differ_have_a_sample_that_differs(self):
        dice = Dice(1511)
        for _ in range(150):
            one = random_hook_set(dice, 60, 3)
            plan, other_plan = random_plan(dice, one.names), random_plan(dice, one.names)
            document = crowded(dice, one.scope)
            if misfit(one.scope, document) is None:
                ends = [outcome(one.hooks, told, document) for told in (plan, other_plan)]
                if ends[0] != ends[1]:
                    found = compare_plans(one, plan, one, other_plan)
                    self.assertLessEqual(compare_documents(found, document), 0)


class CompareErrorsTest(unittest.TestCase):
    ONE = hook_set(h="when has a.b then remove c", i=())
    OTHER = hook_set(h="set a 1", j=())

    def check(self, expected, one, plan, other, other_plan):
        self.assertEqual(error_of(compare_plans, one, plan, other, other_plan), expected)
        for many in (0, 1, 20):
            self.assertEqual(error_of(list_differences, one, plan, other, other_plan, many), expected)

    def test_no_scope_together(self):
        self.check(("ScopeError", "kinds", ("a",)), self.ONE, H, self.OTHER, H)
        self.check(("ScopeError", "kinds", ("a",)), self.OTHER, ((), (), 0), self.ONE, ((), (), 0))
        eight = [hook_set(h="when " + " and ".join([f"has {key}" for key in keys]) + " then reject no")
                 for keys in ("stuv", "wxyz")]
        self.check(("ScopeError", "samples", ()), eight[0], H, eight[1], H)
        one, other = hook_set(h="each p remove @"), hook_set(h="each p.q remove @")
        self.check(("ScopeError", "overlap", ("p",)), one, H, other, H)
        self.check(("ScopeError", "overlap", ("p", "q")), other, H, one, H)

    def test_unknown_names_first(self):
        none = ((), (), 0)
        for plan, name in (((("h", "j", "k"), (), 0), "j"), ((("h",), ("x",), 0), "x"), (((), ("i", "y"), 3), "y")):
            self.check(("UnknownHook", name), self.ONE, plan, self.OTHER, (("z",), ("w",), 0))
            self.check(("UnknownHook", name), self.ONE, plan, self.ONE, none)
            self.check(("UnknownHook", name), self.ONE, plan, self.OTHER, none)
        self.check(("UnknownHook", "i"), self.ONE, (("h", "i"), (), 0), self.OTHER, (("j",), ("i",), 0))
        self.check(("UnknownHook", "z"), self.ONE, none, self.ONE, (("z",), ("w",), 0))
        self.check(("UnknownHook", "z"), self.ONE, (("z",), ("w",), 0), self.ONE, none)


class ViolationTest(unittest.TestCase):
    def check(self, one, plan, text, told):
        found = find_violation(one, plan, read_claim(text))
        self.assertEqual(found, None if told is None else doc(told))

    def test_examples(self):
        sizes = hook_set(h='when size > 9 then set class "big"')
        self.check(sizes, H, 'not size > 4 or class = "big"', {"size": 5})
        self.check(sizes, H, 'not size > 9 or class = "big"', None)

    def test_the_example_of_the_introduction(self):
        one = hook_set(
            mirror='each spec.containers when @.image = "proxy" then set @.image "local/proxy"',
            sidecar='when spec.mesh = true then default spec.containers.proxy.image "proxy"',
        )
        claim = 'each spec.containers not @.image = "proxy"'
        self.check(one, (("mirror", "sidecar"), (), 0), claim, {"spec": {"mesh": True}})
        self.check(one, (("mirror", "sidecar"), ("mirror",), 3), claim, None)
        self.check(one, (("sidecar", "mirror"), (), 0), claim, None)
        self.check(one, (("sidecar",), (), 0), claim, {"spec": {"mesh": True}})
        self.check(one, ((), (), 0), claim, {"spec": {"containers": {"a": {"image": "proxy"}}}})

    def test_rejected_and_unsettled_documents_violate_nothing(self):
        one = hook_set(h="when x > 5 then reject no", i="when x = 3 then remove y and set y 1")
        self.check(one, H, "not x > 6", None)
        self.check(one, H, "not x > 4", {"x": 5})
        self.check(one, ((), ("i",), 2), "not x = 3", None)
        self.check(one, (("i",), (), 0), "not x = 3", {"x": 3})
        self.check(one, (("i",), ("h",), 2), "not x = 3", {"x": 3})

    def test_places_that_no_rule_has(self):
        one = hook_set(h="set x 1")
        self.check(one, H, "not has a.b.c", {"a": {"b": {"c": None}}})
        self.check(one, H, "a.b < 3", {})
        self.check(one, H, "not a.b < -3", {"a": {"b": -4}})
        self.check(one, H, 'a.b = "t" or not has a', {"a": {}})
        self.check(one, H, "x = 1", None)
        self.check(one, H, "each p @.n > 2", {"p": {"a": {}}})
        self.check(one, H, "each p not @.n > 2", {"p": {"a": {"n": 3}}})
        self.check(one, H, "each p has @", None)
        self.check(one, H, "not has p", {"p": None})

    def test_no_hooks_and_a_plan_without_names(self):
        self.check(HookSet(()), ((), (), 0), "has x", {})
        self.check(HookSet(()), ((), (), 5), "not x = 7", {"x": 7})
        self.check(HookSet(()), ((), (), 5), "x < 7 or not x < 7", None)

    def test_named_and_unnamed_entries(self):
        one = hook_set(h=("each p default @.n 1", "when has p.m then set p.m.n 9"))
        self.check(one, H, "each p not @.n = 9", {"p": {"m": {}}})
        self.check(one, H, "each p has @.n", None)
        self.check(one, H, "each p @.n = 1", {"p": {"m": {}}})
        self.check(one, ((), (), 0), "each p has @.n", {"p": {"a": {}}})
        self.check(one, H, "each p @.n < 10", {"p": {"a": {"n": None}}})

    def test_the_outcome_counts(self):
        one = hook_set(h="each p when @ > 5 then remove @")
        self.check(one, H, "each p not @ > 5", None)
        self.check(one, H, "each p not @ > 4", {"p": {"a": 5}})
        self.check(one, H, "not has p", {"p": {}})

    def test_random_claims_against_all_samples(self):
        dice = Dice(152)
        some = [0, 0]
        for _ in range(150):
            one = random_hook_set(dice, 40, 3)
            plan = random_plan(dice, one.names)
            claim = read_claim(dice.one(CLAIMS))
            try:
                scope = scope_of(one.rules + ((claim[0], claim[1], ()),))
            except ScopeError as error:
                self.assertEqual(error_of(find_violation, one, plan, claim), ("ScopeError", error.reason, error.path))
                continue
            wanted = []
            for sample in ascending(scope):
                end = outcome_by_words(one.hooks, plan, sample)
                if end is not None and breaches(claim, end):
                    wanted.append(sample)
            found = find_violation(one, plan, claim)
            self.assertEqual(found, wanted[0] if wanted else None)
            some[found is None] += 1
            document = crowded(dice, scope)
            if misfit(scope, document) is None:
                end = outcome(one.hooks, plan, document)
                if end is not None and breaches(claim, end):
                    self.assertLessEqual(compare_documents(found, document), 0)
        self.assertGreater(min(some), 10)

    def test_errors(self):
        one = hook_set(h="when has a.b then remove c", i=())
        wrong = read_claim("a = 1")
        self.assertEqual(error_of(find_violation, one, H, wrong), ("ScopeError", "kinds", ("a",)))
        for plan, name in (((("h", "x"), ("y",), 2), "x"), (((), ("i", "y"), 0), "y")):
            self.assertEqual(error_of(find_violation, one, plan, wrong), ("UnknownHook", name))
            self.assertEqual(error_of(find_violation, one, plan, read_claim("has q")), ("UnknownHook", name))
        each = hook_set(h="each p.q remove @")
        self.assertEqual(
            error_of(find_violation, each, H, read_claim("each p has @")), ("ScopeError", "overlap", ("p", "q")),
        )
        many = "has s or has t or has u or has v or has w or has x or has y or has z"
        self.assertEqual(error_of(find_violation, one, H, read_claim(many)), ("ScopeError", "samples", ()))


class PassesTest(unittest.TestCase):
    FILLS = hook_set(h=("when has b then default c 1", "when has a then default b 1"))

    def check(self, one, plan, most, told, unsettled):
        documents = [None if document is None else doc(document) for document in (told, unsettled)]
        self.assertEqual(count_passes(one, plan), (most, documents[0], documents[1]))

    def test_examples_with_every_limit(self):
        for limit, most, told, unsettled in (
            (0, 0, {}, None), (1, 1, {}, {"a": None}), (2, 2, {"b": None}, {"a": None}), (3, 3, {"a": None}, None),
            (4, 3, {"a": None}, None), (5, 3, {"a": None}, None), (6, 3, {"a": None}, None),
        ):
            self.check(self.FILLS, ((), ("h",), limit), most, told, unsettled)
            self.check(self.FILLS, (("h", "h"), (), limit), 0, {}, None)

    def test_without_again(self):
        self.check(self.FILLS, (("h",), (), 6), 0, {}, None)
        self.check(self.FILLS, ((), (), 6), 0, {}, None)
        self.check(HookSet(()), ((), (), 6), 0, {}, None)

    def test_first_and_again(self):
        self.check(self.FILLS, (("h",), ("h",), 5), 2, {"a": None}, None)
        self.check(self.FILLS, (("h",), ("h",), 1), 1, {}, {"a": None})

    def test_no_document_admitted(self):
        self.check(hook_set(h="reject no"), ((), ("h",), 2), None, None, None)
        self.check(hook_set(h="reject no"), H, None, None, None)
        self.check(hook_set(h="remove x and set x 1"), ((), ("h",), 3), None, None, {})
        self.check(hook_set(h=("when x = 1 then reject no", "set x 2 and set x 1")), ((), ("h",), 1), None, None, {})

    def test_rejected_documents_do_not_count(self):
        one = hook_set(h=("when has c then reject no", "when has b then default c 1", "when has a then default b 1"))
        self.check(one, ((), ("h",), 6), 1, {}, None)
        self.check(one, ((), ("h",), 2), 1, {}, {"a": None})

    def test_rings(self):
        one = hook_set(up="when x = 1 then set x 2", down="when x = 2 then set x 1")
        self.check(one, ((), ("up", "down"), 6), 1, {}, {"x": 1})
        self.check(one, ((), ("up",), 6), 2, {"x": 1}, None)

    def test_random_plans_against_all_samples(self):
        dice = Dice(153)
        for _ in range(120):
            one = random_hook_set(dice, 40, 4)
            plan = random_plan(dice, one.names)
            admitted, unsettled = [], []
            for sample in ascending(one.scope):
                status, _, passes, _, _, _ = run_by_words(one.hooks, plan, nodes_dict(sample))
                if status == "admitted":
                    admitted.append((passes, sample))
                if status == "unsettled":
                    unsettled.append(sample)
            most = max([passes for passes, _ in admitted], default=None)
            first = [sample for passes, sample in admitted if passes == most]
            told = (most, first[0] if first else None, unsettled[0] if unsettled else None)
            self.assertEqual(count_passes(one, plan), told)
            document = crowded(dice, one.scope)
            if misfit(one.scope, document) is None:
                ended = run(one.hooks, plan, document)
                if ended[0] == "admitted":
                    self.assertLessEqual(ended[2], most)
                if ended[0] == "unsettled":
                    self.assertLessEqual(compare_documents(unsettled[0], document), 0)

    def test_unknown(self):
        for plan, name in (((("h", "x"), ("y",), 2), "x"), (((), ("h", "y"), 0), "y"), ((("x",), (), 0), "x")):
            self.assertEqual(error_of(count_passes, self.FILLS, plan), ("UnknownHook", name))
        self.assertEqual(error_of(count_passes, HookSet(()), H), ("UnknownHook", "h"))


class ActsTest(unittest.TestCase):
    ACTS = hook_set(g="set x 1", h=("when not x = 1 then reject other", "when x = 1 then set y 2"))

    def check(self, one, plan, *rows):
        expected = [(hook, rule, None if told is None else doc(told)) for hook, rule, told in rows]
        self.assertEqual(first_acts(one, plan), tuple(expected))
        self.assertEqual(find_idle(one, plan), tuple([row[:2] for row in expected if row[2] is None]))

    def test_examples(self):
        self.check(self.ACTS, (("h", "g"), (), 0), ("g", 0, None), ("h", 0, {}), ("h", 1, {"x": 1}))
        self.check(self.ACTS, (("g", "h"), (), 0), ("g", 0, {}), ("h", 0, None), ("h", 1, {}))

    def test_the_rules_of_a_plan(self):
        one = hook_set(a="set x 1", b=(), c=("remove y", "remove z"))
        self.check(one, (("c",), ("a",), 1), ("a", 0, {}), ("c", 0, {"y": None}), ("c", 1, {"z": None}))
        self.check(one, (("c", "c"), (), 0), ("c", 0, {"y": None}), ("c", 1, {"z": None}))
        self.check(one, (("b",), ("b",), 4))
        self.check(one, ((), (), 4))

    def test_again_with_a_limit_of_0(self):
        one = hook_set(a="set x 1", c=("remove y", "remove z"))
        self.check(one, (("a",), ("c",), 0), ("a", 0, {}), ("c", 0, None), ("c", 1, None))
        self.check(one, ((), ("c", "a"), 0), ("a", 0, None), ("c", 0, None), ("c", 1, None))

    def test_first_alone_again_alone_and_no_run(self):
        one = hook_set(a="when x = 1 then remove x", b="when has x and has y then set x 1")
        self.check(one, (("a",), ("b",), 2), ("a", 0, {"x": 1}), ("b", 0, {"x": None, "y": None}))
        self.check(one, ((), ("a",), 2), ("a", 0, {"x": 1}))
        self.check(one, (("b",), ("a",), 2), ("a", 0, {"x": 1}), ("b", 0, {"x": None, "y": None}))
        late = hook_set(a="when x = 1 then set x 2", b="when x = 2 then set y 1", c="when x > 1 then remove x")
        self.check(late, (("c", "a"), ("b",), 1), ("a", 0, {"x": 1}), ("b", 0, {"x": 1}), ("c", 0, {"x": 2}))
        self.check(late, (("c", "b"), ("a",), 1), ("a", 0, {"x": 1}), ("b", 0, None), ("c", 0, {"x": 2}))
        self.check(late, (("c",), ("b", "a"), 1), ("a", 0, {"x": 1}), ("b", 0, None), ("c", 0, {"x": 2}))
        self.check(late, (("c",), ("b", "a"), 2), ("a", 0, {"x": 1}), ("b", 0, {"x": 1}), ("c", 0, {"x": 2}))

    def test_a_call_that_rejects(self):
        one = hook_set(a=("set x 1", "set y 1", "when z = 3 then reject no", "remove x"), b="reject never")
        self.check(one, (("a",), (), 0), ("a", 0, {}), ("a", 1, {}), ("a", 2, {"z": 3}), ("a", 3, {}))
        all_rejected = hook_set(a=("set x 1", "reject no", "remove y"))
        self.check(all_rejected, (("a",), (), 0), ("a", 0, None), ("a", 1, {}), ("a", 2, None))
        before = hook_set(a="set x 1", b="reject no")
        self.check(before, (("a", "b"), (), 0), ("a", 0, {}), ("b", 0, {}))
        self.check(before, (("b", "a"), (), 0), ("a", 0, None), ("b", 0, {}))

    def test_effects_that_lead_back(self):
        one = hook_set(h="remove x and set x 1", i="when not has x then default x 1")
        self.check(one, (("i", "h"), (), 0), ("h", 0, {}), ("i", 0, {}))
        self.check(hook_set(h="when x = 1 then remove x and set x 1"), H, ("h", 0, {"x": 1}))

    def test_idle_rules(self):
        one = hook_set(h=("when x > 5 and x < 6 then remove y", "when x > 5 and x < 7 then remove y", "remove y"))
        self.check(one, H, ("h", 0, None), ("h", 1, {"x": 6, "y": None}), ("h", 2, {"y": None}))
        each = hook_set(h=("each p when has @.n then remove @", "each p when @.n > 3 then set @.m 1", "each p set @.m 2"))
        self.check(each, H, ("h", 0, {"p": {"a": {"n": None}}}), ("h", 1, None), ("h", 2, {"p": {"a": {}}}))

    def test_unsettled_runs_count(self):
        one = hook_set(h="remove x and set x 1")
        self.check(one, ((), ("h",), 6), ("h", 0, {}))

    def test_random_plans_against_all_samples(self):
        dice = Dice(154)
        some = [0, 0]
        for _ in range(120):
            one = random_hook_set(dice, 40, 4)
            plan = (random_names(dice, one.names, 3), random_names(dice, one.names, 2), dice.dice.randint(0, 3))
            samples = ascending(one.scope)
            acting = []
            for sample in samples:
                _, _, _, _, rejection, log = run_by_words(one.hooks, plan, nodes_dict(sample))
                acting.append({entry[1:3] for entry in log} | ({rejection[1:3]} if rejection else set()))
            wanted = []
            for hook in one.hooks:
                for number in range(len(hook[1]) if hook[0] in plan[0] + plan[1] else 0):
                    found = [sample for sample, acts in zip(samples, acting) if (hook[0], number) in acts]
                    wanted.append((hook[0], number, found[0] if found else None))
                    some[found == []] += 1
            self.assertEqual(first_acts(one, plan), tuple(wanted))
            self.assertEqual(find_idle(one, plan), tuple([row[:2] for row in wanted if row[2] is None]))
        self.assertGreater(min(some), 20)

    def test_unknown(self):
        for plan, name in (((("h", "x"), ("y",), 2), "x"), (((), ("g", "y"), 0), "y"), ((("x",), (), 0), "x")):
            self.assertEqual(error_of(first_acts, self.ACTS, plan), ("UnknownHook", name))
            self.assertEqual(error_of(find_idle, self.ACTS, plan), ("UnknownHook", name))
        self.assertEqual(error_of(find_idle, HookSet(()), H), ("UnknownHook", "h"))


if __name__ == "__main__":
    unittest.main()

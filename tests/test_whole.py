"""Points 1 to 7 and 220: what holds for the whole program."""

import inspect
import unittest

from hookcheck import errors
from hookcheck.calls import apply_rule, call_hook, replayed
from hookcheck.conditions import alternatives, breaches, entries, holds
from hookcheck.desks import Desk
from hookcheck.documents import compare_documents, document_of, held, keys_below, nodes, with_scalar, without
from hookcheck.graphs import end_marks, ends_from, heights, table_conflict, table_fight, takes_marks, takes_ranks
from hookcheck.hooks import HookSet
from hookcheck.origins import origin_of, origins
from hookcheck.parts import joined, misfit, parts, unnamed_entries
from hookcheck.paths import above, compare_paths, compare_texts, covers, is_key, read_path, show_path
from hookcheck.plans import call_unit, outcome, run
from hookcheck.pools import alike, passes, pool_of
from hookcheck.printer import show_claim, show_hooks, show_rule
from hookcheck.questions import (
    compare_plans, count_passes, find_idle, find_violation, first_acts, list_differences,
)
from hookcheck.reader import read_claim, read_hooks, read_rule
from hookcheck.reductions import call_again, first_restless, least_set, same_outcomes, shortest_calls
from hookcheck.samples import each_sample, first_with, is_sample, samples_of
from hookcheck.schedules import call_bound, find_conflict, find_fight, follow
from hookcheck.scopes import count_samples, scope_of
from hookcheck.tables import call_table, numbers_of, outcome_row
from hookcheck.tokens import tokens_of
from hookcheck.walks import classes, round_ends, tell_apart, walk

from tests.tools import doc, error_of, hooks_of

LINES = (
    "hook mirror", 'each spec.containers when @.image = "proxy" then set @.image "local/proxy"',
    "hook sidecar", 'when spec.mesh = true then default spec.containers.proxy.image "proxy"',
)
CLAIM = 'each spec.containers not @.image = "proxy"'
DOCUMENT = doc({"p": {"b": {"n": 7}, "m": {"n": 1}, "aa": {}}, "y": 5})
HOOKS = read_hooks((
    "hook low", "each p when @.n > 6 then set @.n 6", "hook fill", "default x from y", "hook guard",
    "when x > 9 then reject too-high",
))
PLAN = (("low", "fill"), ("low", "guard"), 3)
UNITS = (("low",), ("fill", "guard"), ())


def is_plain(told):
    """Whether it is one of the values that are passed and returned."""
    if isinstance(told, tuple):
        return all(is_plain(one) for one in told)
    if isinstance(told, str):
        return all(" " <= sign <= "~" and sign != "%" for sign in told)
    return told is None or isinstance(told, (bool, int, HookSet, Desk))


def wide(many, told):
    """A document with many entries of p, all alike, and keys of two letters."""
    keys = [one + other for one in "abcdefgh" for other in "bcdefgh"][:many]
    return doc({"p": {key: told for key in keys}})


class ExampleTest(unittest.TestCase):
    def test_point_3(self):
        hook_set = HookSet(read_hooks(LINES))
        self.assertIsNone(find_fight(hook_set, (("mirror",), ("sidecar",))))
        claim = read_claim(CLAIM)
        self.assertEqual(
            find_violation(hook_set, (("mirror", "sidecar"), (), 0), claim),
            (("spec", ("record", (("mesh", ("true",)),))),),
        )
        self.assertIsNone(find_violation(hook_set, (("mirror", "sidecar"), ("mirror",), 3), claim))

    def test_what_it_says_of_the_example(self):
        hook_set = HookSet(read_hooks(LINES))
        self.assertIsNone(find_conflict(hook_set, (("mirror",), ("sidecar",))))
        self.assertIsNotNone(heights(call_table(hook_set, (("mirror",), ("sidecar",)))))
        self.assertEqual(call_again(hook_set, hook_set.names, 3), ("mirror",))


class ValuesTest(unittest.TestCase):
    def told(self):
        """What the functions of all modules return for ordinary arguments."""
        hook_set, claim, rule = HookSet(HOOKS), read_claim("each p @.n < 7 or has x"), HOOKS[0][1][0]
        table, scope, once = call_table(hook_set, UNITS), hook_set.scope, (("guard",), (), 0)
        ended = run(HOOKS, PLAN, DOCUMENT)
        yield is_key("a"), compare_texts("a", "b"), compare_paths(("a",), ()), covers((), ("a",)), above(("a", "b"))
        yield read_path("a.b", 2), read_path(".", 2), show_path(("a", "b")), nodes(DOCUMENT), document_of(nodes(DOCUMENT))
        yield held(DOCUMENT, ("p",)), keys_below(DOCUMENT, ("p",)), with_scalar((), ("a", "b"), ("true",))
        yield without(DOCUMENT, ("p", "b")), compare_documents(DOCUMENT, ()), tokens_of(CLAIM), claim, rule, HOOKS
        yield show_rule(rule), show_claim(claim), show_hooks(HOOKS), entries(DOCUMENT, ("p",)), alternatives(claim[1])
        yield holds(claim[1], DOCUMENT, entry=("p", "b")), breaches(claim, DOCUMENT), apply_rule(rule, DOCUMENT)
        yield call_hook(HOOKS[1], DOCUMENT), call_unit(HOOKS, UNITS[1], DOCUMENT), ended, outcome(HOOKS, PLAN, DOCUMENT)
        yield replayed(DOCUMENT, tuple([entry[3] for entry in ended[5]])), origin_of(ended[5], ("p", "aa", "n"))
        yield origins(HOOKS, PLAN, DOCUMENT), passes(("<", 3), ("null",)), alike((), ("null",), ("true",))
        yield pool_of((("<", 3),), 2), scope, count_samples(scope), unnamed_entries(scope, DOCUMENT)
        yield misfit(scope, DOCUMENT), misfit(scope, doc({"p": 1})), parts(scope, DOCUMENT)
        yield joined(scope, parts(scope, DOCUMENT)), is_sample(scope, ()), samples_of(scope, DOCUMENT)
        yield first_with(scope, samples_of(scope, DOCUMENT)), hook_set, hook_set.hooks, hook_set.names, hook_set.rules
        yield hook_set.scope, hook_set.samples, hook_set.hook("low"), hook_set.check(()), hook_set.run(PLAN, ())
        yield len(hook_set), "low" in hook_set, tuple(hook_set), compare_plans(hook_set, PLAN, hook_set, once)
        yield list_differences(hook_set, PLAN, hook_set, once, 20), find_violation(hook_set, PLAN, claim)
        yield count_passes(hook_set, PLAN), first_acts(hook_set, PLAN), find_idle(hook_set, PLAN), table
        yield outcome_row(hook_set, PLAN), numbers_of(hook_set, DOCUMENT), ends_from(table, 0), table_conflict(table)
        yield table_fight(table), heights(table), end_marks(table), takes_ranks(table, (1, 2)), takes_marks(table, ())
        yield walk(table, ((0,), (1,), 2), 1), round_ends(table), tell_apart(table, 0, 1), classes(table)
        yield follow(HOOKS, UNITS, DOCUMENT, (0,)), follow(HOOKS, UNITS, DOCUMENT, (2,)), find_conflict(hook_set, UNITS)
        yield find_fight(hook_set, UNITS), call_bound(hook_set, (1,) * len(table), DOCUMENT)
        yield same_outcomes(hook_set, PLAN, once), least_set(hook_set, PLAN), shortest_calls(hook_set, PLAN, 3)
        yield first_restless(hook_set, ("low",), (), 2), call_again(hook_set, ("low", "fill"), 2)
        desk = Desk(HOOKS, PLAN)
        yield desk.put(HOOKS[0], 0), desk.move("low", 1), desk.use(once), desk.require(read_claim("has x or not has x"))
        yield desk.rehearse((("drop", "low"),)), desk.drop("low"), desk.hooks, desk.plan, desk.current, desk.claims
        yield desk.hook_set, desk.log, desk.undo(), len(desk), Desk.replayed(HOOKS, PLAN, desk.log)

    def test_kinds_of_values(self):
        for row in self.told():
            for told in row:
                self.assertTrue(is_plain(told), told)

    def test_the_same_again(self):
        """Nothing that was passed or returned has changed, so the same is returned once more."""
        first, second = list(self.told()), list(self.told())
        for one, other in zip(first, second):
            pairs = [pair for pair in zip(one, other) if not isinstance(pair[0], (HookSet, Desk))]
            self.assertEqual([pair[0] for pair in pairs], [pair[1] for pair in pairs])

    def test_only_samples_are_generated(self):
        self.assertTrue(inspect.isgeneratorfunction(each_sample))
        self.assertTrue(is_plain(tuple(each_sample(scope_of(HOOKS[0][1])))))

    def test_hook_sets_that_are_passed_stay_as_they_were(self):
        hook_set = HookSet(HOOKS)
        before = (hook_set.hooks, hook_set.names, hook_set.rules, hook_set.scope, hook_set.samples)
        for call in (find_fight, find_conflict, call_table):
            call(hook_set, UNITS)
        for call in (count_passes, first_acts, least_set, outcome_row):
            call(hook_set, PLAN)
        self.assertEqual(before, (hook_set.hooks, hook_set.names, hook_set.rules, hook_set.scope, hook_set.samples))


class BeyondTest(unittest.TestCase):
    """What was returned may be passed on, even if it is greater or longer than a bound lets."""

    def test_large_documents(self):
        hooks = hooks_of(a="each p default @.x 1 and default @.y 2", b="when has q then remove q")
        hook_set = HookSet(hooks)
        document = hook_set.run((("a",), (), 0), wide(39, {}))[1]
        self.assertGreater(len(nodes(document)), 100)
        self.assertEqual(document_of(nodes(document)), document)
        self.assertEqual(run(hooks, ((), ("a",), 6), document)[:3], ("admitted", document, 1))
        self.assertEqual(joined(hook_set.scope, parts(hook_set.scope, document)), document)
        samples = samples_of(hook_set.scope, document)
        self.assertEqual(len(samples), 40)
        self.assertEqual(len(nodes(first_with(hook_set.scope, samples))), len(nodes(document)))
        self.assertEqual(len(set(numbers_of(hook_set, document)[1:])), 1)
        self.assertEqual(call_bound(hook_set, (1,) * len(hook_set.samples), document), 40)
        self.assertEqual(follow(hooks, (("a",), ("b",)), document, ()), ("end", document))
        self.assertEqual(compare_documents(document, wide(39, {})), 1)

    def test_long_logs(self):
        hooks = hooks_of(a="each p remove @ and set @ 1")
        before = wide(39, 2)
        log = run(hooks, (("a",) * 6, ("a",), 6), before)[5]
        self.assertEqual(len(log), 12 * 78)
        many = log + run(hooks, (("a",), (), 0), before)[5]
        self.assertEqual(replayed(before, tuple([entry[3] for entry in many])), wide(39, 1))
        self.assertEqual(origin_of(log, ("p", "ab")), ("literal", 11))

    def test_large_tables(self):
        hooks = hooks_of(
            a="when has s then remove t", b="when has u then remove v", c="when has w then remove x", d="remove y",
        )
        hook_set = HookSet(hooks)
        table = call_table(hook_set, (("a",), ("b",), ("c",), ("d",)))
        self.assertEqual(len(table), 128)
        self.assertEqual(max(heights(table)), 4)
        self.assertTrue(takes_ranks(table, heights(table)))
        self.assertTrue(takes_marks(table, end_marks(table)))
        self.assertEqual(round_ends(table), end_marks(table))
        last = len(table) - 1
        self.assertEqual(ends_from(table, last)[0][0], (0, 1, 2, 3))
        self.assertEqual(walk(table, ((0, 1, 2, 3), (0, 1, 2, 3), 6), last)[2:], (1, 8))
        self.assertEqual(len(set(classes(table))), 16)
        self.assertEqual(tell_apart(table, 0, last), (0,))
        self.assertEqual(call_bound(hook_set, heights(table), hook_set.samples[last]), 4)

    def test_long_logs_of_desks(self):
        desk = Desk(HOOKS, PLAN)
        for _ in range(15):
            desk.use(((), (), 0))
            desk.use(PLAN)
        self.assertEqual(len(Desk.replayed(desk.hooks, desk.plan, desk.log)), 30)
        self.assertEqual(desk.rehearse(desk.log[:10]), Desk(HOOKS, PLAN).rehearse(desk.log[:10]))

    def test_large_numbers(self):
        hook_set = HookSet(hooks_of(a="when x > 999999 then set x 999999", b="when x < -999999 then reject small"))
        self.assertIn(doc({"x": 1000000}), hook_set.samples)
        self.assertIn(doc({"x": -1000000}), hook_set.samples)
        self.assertEqual(numbers_of(hook_set, doc({"x": 10 ** 30})), numbers_of(hook_set, doc({"x": 1000000})))
        self.assertEqual(hook_set.run((("b",), (), 0), doc({"x": -10 ** 30}))[4], (0, "b", 0, "small"))


class ErrorsTest(unittest.TestCase):
    def test_each_is_a_subclass_of_the_base_alone(self):
        classes_told = [one for _, one in inspect.getmembers(errors, inspect.isclass) if one.__module__ == errors.__name__]
        self.assertEqual(len(classes_told), 11)
        self.assertTrue(issubclass(errors.HookcheckError, ValueError))
        for one in classes_told:
            self.assertTrue(issubclass(one, errors.HookcheckError))
            others = [other for other in classes_told if other not in (one, errors.HookcheckError)]
            self.assertFalse(any(issubclass(one, other) for other in others))

    def test_the_first_of_several(self):
        hook_set, wrong = HookSet(HOOKS), doc({"p": 1})
        clash = read_claim("has x.y")
        bad = (("low", "no"), ("never",), 0)
        for told, call, arguments in (
            (("UnknownHook", "no"), hook_set.run, (bad, wrong)),
            (("UnknownHook", "no"), find_violation, (hook_set, bad, clash)),
            (("UnknownHook", "no"), compare_plans, (hook_set, bad, HookSet(hooks_of(a="set p 1")), PLAN)),
            (("UnknownHook", "no"), first_restless, (hook_set, ("no",), ("never",), 0)),
            (("UnknownHook", "no"), same_outcomes, (hook_set, bad, (("never",), (), 0))),
            (("ScopeError", "kinds", ("x",)), find_violation, (hook_set, PLAN, clash)),
            (("ScopeError", "kinds", ("p",)), compare_plans, (hook_set, PLAN, HookSet(hooks_of(low="set p 1")),
                                                                 (("low",), (), 0))),
        ):
            self.assertEqual(error_of(call, *arguments), told)


if __name__ == "__main__":
    unittest.main()

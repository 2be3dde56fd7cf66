"""Points 200 to 205: the desk, its changes, their errors, what they tell, the log and undoing."""

import unittest

from hookcheck.desks import Desk
from hookcheck.errors import Broken, NothingToUndo, ScopeError, TooMany, UnknownHook
from hookcheck.hooks import HookSet
from hookcheck.questions import compare_plans, find_violation
from hookcheck.reader import read_claim, read_rule

from tests.desk_model import DeskByWords, Refused, current_of
from tests.tools import Dice, doc, error_of, hooks_of, random_names

SIZES = hooks_of(sizes='when size > 9 then set class "big"')
BIG = read_claim('not size > 9 or class = "big"')
NONE = ((), (), 0)
TEXTS = (
    "default x 1", "default x 2", "set x 1", "when x = 1 then set y 2", "when y = 2 then reject no", "remove y",
    "when x > 5 then reject large", "default y from x", "each p when @ > 3 then set @ 3", "each p remove @",
    "when has x.z then remove y", "each p.q set @ 1", "set p 1", "when has a and has b and has c then reject many",
    "when has d and has e and has f then reject many", "remove g",
)
CLAIMS = (
    "x < 6 or not x > 5", "not x > 5", "has x", "each p not @ > 3", "not y = 2", "x = 1 or x = 2 or not has x",
    "each p.q has @", "not has x.z", "has p or not has p", "not has h and not has i and not has j and not has k",
)


def hook(told, *texts):
    return (told, tuple([read_rule(text) for text in texts]))


def kept(desk):
    """Everything that a desk tells of itself."""
    return (desk.hooks, desk.plan, desk.current, desk.claims, desk.log, len(desk), desk.hook_set.hooks)


def sizes_desk():
    """The desk of the example, with one claim."""
    desk = Desk(SIZES, (("sizes", "limits"), (), 0))
    desk.require(BIG)
    return desk


class DeskTest(unittest.TestCase):
    def check(self, desk, names, plan, current, claims, log):
        self.assertEqual(desk.hook_set.names, names)
        self.assertEqual(desk.hooks, desk.hook_set.hooks)
        self.assertEqual((desk.plan, desk.current), (plan, current))
        self.assertEqual(desk.claims, claims)
        self.assertEqual(desk.log, log)
        self.assertEqual(len(desk), len(log))

    def refused(self, desk, error, call, *arguments):
        """The call raises the error and changes nothing."""
        before = kept(desk)
        self.assertEqual(error_of(call, *arguments), error)
        self.assertEqual(kept(desk), before)


class MakingTest(DeskTest):
    def test_at_first(self):
        plan = (("sizes", "limits"), ("limits", "sizes", "x"), 2)
        desk = Desk(SIZES, plan)
        self.check(desk, ("sizes",), plan, (("sizes",), ("sizes",), 2), (), ())
        self.assertEqual(desk.hooks, SIZES)
        self.check(Desk((), NONE), (), NONE, NONE, (), ())
        self.check(Desk((), (("a",), ("a",), 6)), (), (("a",), ("a",), 6), ((), (), 6), (), ())

    def test_no_scope(self):
        for rules, error in (
            (("when has a.b then remove c", "set a 1"), ("ScopeError", "kinds", ("a",))),
            (("each p remove @", "each p.q remove @"), ("ScopeError", "overlap", ("p",))),
        ):
            hooks = hooks_of(a=rules)
            self.assertEqual(error_of(Desk, hooks, NONE), error)
            self.assertEqual(error_of(Desk.replayed, hooks, NONE, ()), error)
        self.assertRaises(ScopeError, Desk, hooks, NONE)

    def test_the_example(self):
        desk = Desk(SIZES, (("sizes", "limits"), (), 0))
        self.assertIsNone(desk.require(BIG))
        limits = hook("limits", "when size > 99 then reject too-big")
        self.assertEqual(desk.put(limits, 1), doc({"size": 100}))
        self.refused(desk, ("Broken", 0, doc({"size": 10})), desk.drop, "sizes")
        self.assertEqual(desk.rehearse((("use", (("limits", "sizes"), (), 0)), ("move", "limits", 0))), (None, None))
        self.check(desk, ("sizes", "limits"), (("sizes", "limits"), (), 0), (("sizes", "limits"), (), 0), (BIG,),
                   (("require", BIG), ("put", limits, 1)))
        self.assertEqual(desk.undo(), ("put", limits, 1))
        self.check(desk, ("sizes",), (("sizes", "limits"), (), 0), (("sizes",), (), 0), (BIG,), (("require", BIG),))


class PutTest(DeskTest):
    def test_places(self):
        for place, names in ((0, ("x", "a", "b")), (1, ("a", "x", "b")), (2, ("a", "b", "x"))):
            desk = Desk(hooks_of(a="default x 1", b="default x 2"), (("a", "x"), ("b",), 1))
            self.assertEqual(desk.put(hook("x", "set y 1"), place), ())
            self.check(desk, names, (("a", "x"), ("b",), 1), (("a", "x"), ("b",), 1), (),
                       (("put", hook("x", "set y 1"), place),))
        desk = Desk((), NONE)
        self.assertIsNone(desk.put(hook("x", "set y 1"), 0))
        self.assertEqual(desk.hooks, (hook("x", "set y 1"),))

    def test_a_name_that_is_there(self):
        for place in (0, 1, 2, 3, 99):
            desk = Desk(hooks_of(a="default x 1", b="default x 2", c=()), (("a", "b"), (), 0))
            self.assertEqual(desk.put(hook("b", "set x 3"), place), ())
            self.assertEqual(desk.hooks, hooks_of(a="default x 1", b="set x 3", c=()))
            self.assertEqual(desk.log, (("put", hook("b", "set x 3"), place),))

    def test_a_hook_that_is_not_called(self):
        desk = Desk(SIZES, (("sizes",), (), 0))
        self.assertIsNone(desk.put(hook("x", "reject no"), 0))
        self.check(desk, ("x", "sizes"), (("sizes",), (), 0), (("sizes",), (), 0), (), (("put", hook("x", "reject no"), 0),))

    def test_a_change_that_leaves_everything_as_it_was(self):
        desk = Desk(SIZES, (("sizes",), (), 0))
        self.assertIsNone(desk.put(SIZES[0], 0))
        self.assertIsNone(desk.move("sizes", 0))
        self.assertIsNone(desk.use((("sizes",), (), 0)))
        self.check(desk, ("sizes",), (("sizes",), (), 0), (("sizes",), (), 0), (),
                   (("put", SIZES[0], 0), ("move", "sizes", 0), ("use", (("sizes",), (), 0))))

    def test_a_name_that_comes_back(self):
        desk = Desk(hooks_of(a="default x 1"), (("a", "b"), ("b",), 1))
        self.assertEqual(desk.drop("a"), ())
        self.assertEqual(desk.current, ((), (), 1))
        self.assertEqual(desk.plan, (("a", "b"), ("b",), 1))
        self.assertEqual(desk.put(hook("b", "default x 3"), 0), ())
        self.assertEqual(desk.current, (("b",), ("b",), 1))
        self.assertEqual(desk.put(hook("a", "default x 1"), 1), ())
        self.assertEqual(desk.current, (("a", "b"), ("b",), 1))

    def test_documents_that_fit_both(self):
        # A record at x fits the rules before the change, but not those behind it.
        desk = Desk(hooks_of(a="remove x"), (("a",), (), 0))
        self.assertEqual(desk.put(hook("a", "when x = 7 then remove x"), 0), doc({"x": None}))
        self.assertEqual(desk.put(hook("a", "remove x"), 0), doc({"x": None}))
        self.assertEqual(desk.put(hook("a", "when x > 5 then remove x"), 0), doc({"x": None}))
        self.assertEqual(desk.put(hook("a", "when x > 6 then remove x"), 0), doc({"x": 6}))

    def test_too_many_hooks(self):
        desk = Desk(hooks_of(a=(), b=(), c=(), d=()), NONE)
        self.refused(desk, ("TooMany", "hooks"), desk.put, hook("e"), 0)
        self.refused(desk, ("TooMany", "hooks"), desk.put, hook("e", *["when has a.b then set a 1"] * 7), 4)
        self.assertIsNone(desk.put(hook("d", "set x 1"), 0))
        self.assertIsNone(desk.drop("c"))
        self.assertIsNone(desk.put(hook("e", "set x 1"), 3))
        self.assertEqual(desk.hook_set.names, ("a", "b", "d", "e"))

    def test_too_many_rules(self):
        desk = Desk(hooks_of(a=["remove x"] * 3, b=["remove y"] * 3), NONE)
        self.refused(desk, ("TooMany", "rules"), desk.put, hook("c", "remove z"), 0)
        self.refused(desk, ("TooMany", "rules"), desk.put, hook("a", *["when has a.b then set a 1"] * 4), 0)
        self.assertIsNone(desk.put(hook("c"), 0))
        self.assertIsNone(desk.put(hook("a", *["remove z"] * 3), 0))
        self.assertRaises(TooMany, desk.put, hook("c", "remove z"), 0)


class DropTest(DeskTest):
    def test_drop(self):
        desk = Desk(hooks_of(a="default x 1", b="default x 2"), (("a", "b", "a"), ("b", "a"), 2))
        self.assertEqual(desk.drop("a"), ())
        self.check(desk, ("b",), (("a", "b", "a"), ("b", "a"), 2), (("b",), ("b",), 2), (), (("drop", "a"),))
        self.assertEqual(desk.drop("b"), ())
        self.check(desk, (), (("a", "b", "a"), ("b", "a"), 2), ((), (), 2), (), (("drop", "a"), ("drop", "b")))

    def test_an_idle_hook(self):
        desk = Desk(hooks_of(a="set x 1", b="default x 2"), (("a", "b"), (), 0))
        self.assertIsNone(desk.drop("b"))
        self.assertEqual(desk.current, (("a",), (), 0))

    def test_unknown(self):
        desk = Desk(hooks_of(a="default x 1"), (("b",), (), 0))
        self.refused(desk, ("UnknownHook", "b"), desk.drop, "b")
        self.refused(desk, ("UnknownHook", "b"), desk.move, "b", 0)
        self.assertRaises(UnknownHook, desk.drop, "x")
        self.assertRaises(UnknownHook, Desk((), NONE).move, "a", 0)


class MoveTest(DeskTest):
    def test_places(self):
        for name, place, names in (
            ("a", 0, "abc"), ("a", 1, "bac"), ("a", 2, "bca"), ("b", 0, "bac"), ("b", 1, "abc"), ("b", 2, "acb"),
            ("c", 0, "cab"), ("c", 1, "acb"), ("c", 2, "abc"),
        ):
            desk = Desk(hooks_of(a="set x 1", b="set x 2", c=()), (("b", "a"), (), 0))
            self.assertIsNone(desk.move(name, place))
            self.check(desk, tuple(names), (("b", "a"), (), 0), (("b", "a"), (), 0), (), (("move", name, place),))

    def test_one_hook(self):
        desk = Desk(SIZES, NONE)
        self.assertIsNone(desk.move("sizes", 0))
        self.assertEqual(desk.log, (("move", "sizes", 0),))


class UseTest(DeskTest):
    def test_use(self):
        desk = Desk(hooks_of(a="default x 1", b="default x 2"), (("a",), (), 0))
        self.assertEqual(desk.use((("b", "q"), ("r", "a"), 3)), ())
        self.check(desk, ("a", "b"), (("b", "q"), ("r", "a"), 3), (("b",), ("a",), 3), (),
                   (("use", (("b", "q"), ("r", "a"), 3)),))
        self.assertIsNone(desk.use((("b",), (), 6)))
        self.assertIsNone(desk.use((("q", "b", "a"), (), 0)))
        self.assertEqual(desk.use((("a", "b"), (), 0)), ())
        self.assertEqual(desk.use(((), ("x", "y"), 6)), ())
        self.assertEqual(desk.current, ((), (), 6))

    def test_a_claim_that_would_be_violated(self):
        desk = sizes_desk()
        self.refused(desk, ("Broken", 0, doc({"size": 10})), desk.use, NONE)
        self.refused(desk, ("Broken", 0, doc({"size": 10})), desk.use, ((), ("sizes",), 0))
        self.assertEqual(desk.use(((), ("sizes",), 1)), doc({"size": 10}))


class RequireTest(DeskTest):
    def test_claims(self):
        desk = Desk(SIZES, (("sizes",), (), 0))
        other = read_claim("has x or not has x")
        for number, claim in enumerate((BIG, other, BIG, BIG)):
            self.assertIsNone(desk.require(claim))
            self.assertEqual(desk.claims, (BIG, other, BIG, BIG)[:number + 1])
        self.refused(desk, ("TooMany", "claims"), desk.require, BIG)
        self.refused(desk, ("TooMany", "claims"), desk.require, read_claim("not has size.x"))
        self.assertEqual(desk.log, tuple([("require", claim) for claim in (BIG, other, BIG, BIG)]))

    def test_a_claim_that_is_violated(self):
        desk = sizes_desk()
        self.refused(desk, ("Broken", 1, doc({"size": 5})), desk.require, read_claim("not size > 4"))
        self.refused(desk, ("Broken", 1, ()), desk.require, read_claim("has other.place"))
        self.assertRaises(Broken, desk.require, read_claim("has x"))

    def test_a_claim_without_a_scope(self):
        desk = Desk(SIZES, (("sizes",), (), 0))
        self.refused(desk, ("ScopeError", "kinds", ("size",)), desk.require, read_claim("not has size.x"))
        self.refused(desk, ("ScopeError", "kinds", ("size",)), desk.require, read_claim("each size not has @"))
        many = read_claim("has s or has t or has u or has v or has w or has x or has y or has z")
        self.refused(desk, ("ScopeError", "samples", ()), desk.require, many)

    def test_only_the_new_claim_is_looked_at(self):
        desk = sizes_desk()
        self.assertIsNone(desk.require(read_claim("not size > 20 or size > 9")))
        self.assertEqual(len(desk.claims), 2)


class ErrorsTest(DeskTest):
    """The errors of a change, in their order."""

    def test_scope_behind_the_change(self):
        desk = Desk(hooks_of(a="when has x.y then remove z"), (("a",), (), 0))
        self.refused(desk, ("ScopeError", "kinds", ("x",)), desk.put, hook("b", "set x 1"), 0)
        self.refused(desk, ("ScopeError", "overlap", ("p",)), desk.put, hook("b", "each p remove @", "each p.q remove @"), 0)

    def test_scope_of_both(self):
        desk = Desk(hooks_of(a="when has x.y then remove z"), (("a",), (), 0))
        self.refused(desk, ("ScopeError", "kinds", ("x",)), desk.put, hook("a", "set x 1"), 0)
        self.assertEqual(desk.drop("a"), doc({"z": None, "x": {"y": None}}))
        self.assertEqual(desk.put(hook("a", "set x 1"), 0), ())
        eight = hooks_of(a="when has s and has t and has u and has v then reject no")
        desk = Desk(eight, NONE)
        texts = "when has w and has x and has y and has z then reject no"
        self.refused(desk, ("ScopeError", "samples", ()), desk.put, hook("a", texts), 0)
        self.assertIsNone(desk.put(hook("a"), 0))
        self.assertIsNone(desk.put(hook("a", texts), 0))

    def test_scope_behind_the_change_ahead_of_that_of_both(self):
        # The rules behind the change have two collections in each other; with those before it there are three.
        desk = Desk(hooks_of(a="each q.r remove @"), NONE)
        wrong = hook("a", "each p.s remove @", "each p remove @", "each q remove @")
        self.refused(desk, ("ScopeError", "overlap", ("p", "s")), desk.put, wrong, 0)
        self.refused(desk, ("ScopeError", "overlap", ("q", "r")), desk.put, hook("a", "each q remove @"), 0)

    def test_scope_of_both_ahead_of_claims(self):
        desk = Desk(hooks_of(a=("remove z", "when has x.y then remove w")), (("a",), (), 0))
        desk.require(read_claim("not has z"))
        self.refused(desk, ("ScopeError", "kinds", ("x",)), desk.put, hook("a", "set x 1"), 0)
        self.refused(desk, ("Broken", 0, doc({"z": None})), desk.put, hook("a", "set v 1"), 0)

    def test_scope_behind_the_change_ahead_of_claims(self):
        desk = Desk(hooks_of(a="remove z"), (("a",), (), 0))
        desk.require(read_claim("not has z"))
        self.refused(desk, ("ScopeError", "kinds", ("x",)), desk.put, hook("a", "when has x.y then set x 1"), 0)

    def test_claim_by_claim(self):
        desk = Desk(hooks_of(a="set x 1"), (("a",), (), 0))
        for text in ("x = 1", "not has y.z or has y", "x < 2"):
            self.assertIsNone(desk.require(read_claim(text)))
        # The first claim is violated, though the second one has no scope.
        both = hook("a", "set x 2", "set y 1")
        self.refused(desk, ("Broken", 0, ()), desk.put, both, 0)
        # The second claim has no scope, though the third one is violated.
        desk = Desk(hooks_of(a="set x 1"), (("a",), (), 0))
        for text in ("has x", "not has y.z or has y", "x < 2"):
            self.assertIsNone(desk.require(read_claim(text)))
        self.refused(desk, ("ScopeError", "kinds", ("y",)), desk.put, both, 0)
        self.refused(desk, ("Broken", 2, ()), desk.put, hook("a", "set x 2"), 0)
        self.refused(desk, ("Broken", 0, ()), desk.put, hook("a", "remove x", "remove y"), 0)

    def test_too_many_ahead_of_scope(self):
        desk = Desk(hooks_of(a=["set s 1"] * 6), NONE)
        self.refused(desk, ("TooMany", "rules"), desk.put, hook("b", "when has s.t then remove z"), 0)

    def test_unknown_ahead_of_all(self):
        # Going somewhat beyond the bounds at the beginning raises no error; each change does.
        five = hooks_of(a=(), b=(), c=(), d=()) + (hook("e"),)
        desk = Desk(five, NONE)
        self.refused(desk, ("UnknownHook", "f"), desk.drop, "f")
        self.refused(desk, ("UnknownHook", "f"), desk.move, "f", 0)
        self.refused(desk, ("TooMany", "hooks"), desk.move, "a", 0)
        self.refused(desk, ("TooMany", "hooks"), desk.use, NONE)
        self.refused(desk, ("TooMany", "hooks"), desk.require, read_claim("has x or not has x"))
        self.assertIsNone(desk.drop("a"))

    def test_moving_and_dropping_look_at_all_claims(self):
        desk = Desk(hooks_of(a="set x 1", b="set x 2"), (("a", "b"), (), 0))
        desk.require(read_claim("has x"))
        desk.require(read_claim("x = 2"))
        self.assertIsNone(desk.move("b", 0))
        self.refused(desk, ("Broken", 1, ()), desk.drop, "b")
        self.assertIsNone(desk.drop("a"))
        self.refused(desk, ("Broken", 0, ()), desk.drop, "b")
        self.assertEqual(len(desk), 4)


class UndoTest(DeskTest):
    def test_down_to_an_empty_log(self):
        desk = Desk(hooks_of(a="default x 1"), (("a", "c"), (), 0))
        seen = [kept(desk)]
        changes = (
            ("put", hook("c", "default y 1"), 0), ("require", read_claim("has y")), ("use", (("c",), (), 0)),
            ("drop", "a"), ("require", read_claim("y = 1 or has y")), ("put", hook("c", "set y 1"), 0),
            ("put", hook("b"), 1), ("move", "b", 0), ("use", (("c", "b"), ("b",), 2)),
        )
        for change in changes:
            getattr(desk, change[0])(*change[1:])
            seen.append(kept(desk))
        self.assertEqual(desk.log, changes)
        for change in reversed(changes):
            self.assertEqual(kept(desk), seen.pop())
            self.assertEqual(desk.undo(), change)
        self.assertEqual(kept(desk), seen[0])
        self.refused(desk, ("NothingToUndo",), desk.undo)
        self.assertRaises(NothingToUndo, desk.undo)

    def test_nothing_to_undo(self):
        desk = Desk((), NONE)
        self.refused(desk, ("NothingToUndo",), desk.undo)
        desk.use((("a",), (), 0))
        desk.undo()
        self.refused(desk, ("NothingToUndo",), desk.undo)

    def test_refused_changes_are_not_undone(self):
        desk = sizes_desk()
        error_of(desk.drop, "sizes")
        self.assertEqual(desk.undo(), ("require", BIG))
        self.assertEqual(desk.claims, ())
        self.assertEqual(desk.drop("sizes"), doc({"size": 10}))

    def test_changes_behind_an_undo(self):
        desk = sizes_desk()
        desk.put(hook("limits", "when size > 99 then reject no"), 1)
        desk.undo()
        desk.put(hook("limits", "when size > 50 then reject no"), 0)
        self.check(desk, ("limits", "sizes"), (("sizes", "limits"), (), 0), (("sizes", "limits"), (), 0), (BIG,),
                   (("require", BIG), ("put", hook("limits", "when size > 50 then reject no"), 0)))


class HookSetTest(DeskTest):
    def test_it_stays_as_it_was(self):
        desk = Desk(hooks_of(a="default x 1"), (("a", "b"), (), 0))
        before = desk.hook_set
        told = (before.hooks, before.names, before.rules, before.scope, before.samples)
        desk.put(hook("b", "set y.z 1"), 0)
        desk.drop("a")
        desk.undo()
        self.assertEqual(told, (before.hooks, before.names, before.rules, before.scope, before.samples))
        self.assertEqual(desk.hook_set.names, ("b", "a"))
        self.assertIsInstance(before, HookSet)

    def test_returned_tuples_stay_as_they_were(self):
        desk = sizes_desk()
        log, claims, hooks = desk.log, desk.claims, desk.hooks
        desk.put(hook("limits"), 0)
        desk.undo()
        desk.undo()
        self.assertEqual((log, claims, hooks), ((("require", BIG),), (BIG,), SIZES))


class RehearseTest(DeskTest):
    def test_none(self):
        desk = sizes_desk()
        before = kept(desk)
        self.assertEqual(desk.rehearse(()), ())
        self.assertEqual(kept(desk), before)

    def test_one_behind_another(self):
        desk = Desk(hooks_of(a="default x 1"), (("a", "b"), (), 0))
        before = kept(desk)
        changes = (("put", hook("b", "set x 2"), 1), ("drop", "a"), ("require", read_claim("x = 2")), ("move", "b", 0),
                   ("use", (("b",), ("b",), 1)), ("put", hook("b", "set x 2", "default y 1"), 7))
        told = desk.rehearse(changes)
        self.assertEqual(kept(desk), before)
        self.assertEqual(told, ((), None, None, None, None, ()))
        self.assertEqual(tuple([getattr(desk, change[0])(*change[1:]) for change in changes]), told)

    def test_refused(self):
        desk = sizes_desk()
        use, drop = ("use", (("sizes",), (), 0)), ("drop", "sizes")
        for changes, error in (
            ((use, drop, ("drop", "x")), ("Broken", 0, doc({"size": 10}))),
            ((use, ("drop", "x"), drop), ("UnknownHook", "x")),
            ((("put", hook("x"), 0), ("drop", "x"), ("drop", "x")), ("UnknownHook", "x")),
            ((("require", BIG),) * 4, ("TooMany", "claims")),
            ((("put", hook("x", "set size.y 1"), 0), ("no", "change")), ("ScopeError", "kinds", ("size",))),
        ):
            self.refused(desk, error, desk.rehearse, changes)


class ReplayedTest(DeskTest):
    def test_none(self):
        desk = Desk.replayed(SIZES, (("sizes", "x"), (), 1), ())
        self.check(desk, ("sizes",), (("sizes", "x"), (), 1), (("sizes",), (), 1), (), ())

    def test_a_log(self):
        desk = sizes_desk()
        desk.put(hook("limits", "when size > 99 then reject no"), 0)
        desk.move("sizes", 0)
        other = Desk.replayed(SIZES, (("sizes", "limits"), (), 0), desk.log)
        self.assertIsInstance(other, Desk)
        self.assertEqual(kept(other), kept(desk))
        while len(desk):
            self.assertEqual(other.undo(), desk.undo())
            self.assertEqual(kept(other), kept(desk))

    def test_another_desk(self):
        desk = sizes_desk()
        other = Desk.replayed(SIZES, desk.plan, desk.log)
        other.undo()
        self.assertEqual((len(desk), len(other)), (1, 0))

    def test_off_an_object(self):
        desk = sizes_desk()
        before = kept(desk)
        self.assertEqual(kept(desk.replayed(SIZES, desk.plan, desk.log)), before)
        self.assertEqual(kept(desk), before)

    def test_refused(self):
        for log, error in (
            ((("require", BIG), ("drop", "sizes"), ("drop", "x")), ("Broken", 0, doc({"size": 10}))),
            ((("drop", "sizes"), ("require", BIG)), ("Broken", 0, doc({"size": 10}))),
            ((("move", "x", 0), ("require", BIG)), ("UnknownHook", "x")),
            ((("require", BIG),) * 5, ("TooMany", "claims")),
            ((("put", hook("x", "set size.y 1"), 0),), ("ScopeError", "kinds", ("size",))),
        ):
            self.assertEqual(error_of(Desk.replayed, SIZES, (("sizes",), (), 0), log), error)


class RandomTest(DeskTest):
    def random_change(self, dice, desk):
        """A change, made or refused."""
        names = [one[0] for one in desk.hooks]
        word = dice.one(("put", "put", "put", "drop", "move", "use", "require", "require"))
        if word == "put":
            told = hook(dice.one("abcde"), *[dice.one(TEXTS) for _ in range(dice.dice.randint(0, 3))])
            return (word, told, dice.dice.randint(0, len(names)))
        if word == "use":
            return (word, (random_names(dice, "abcde", 3), random_names(dice, "abcde", 2), dice.dice.randint(0, 3)))
        if word == "require":
            return (word, read_claim(dice.one(CLAIMS)))
        name = dice.one(names + ["e"])
        return (word, name) if word == "drop" else (word, name, dice.dice.randint(0, max(len(names) - 1, 0)))

    def test_random_desks(self):
        dice = Dice(200)
        seen = {}
        for _ in range(25):
            plan = (("a", "b"), ("c",), 2)
            desk, other = Desk((hook("a", "default x 1"),), plan), DeskByWords((hook("a", "default x 1"),), plan)
            for _ in range(14):
                if len(desk) and dice.chance(0.15):
                    self.assertEqual(desk.undo(), other.log.pop())
                else:
                    self.check_change(desk, other, self.random_change(dice, desk), seen)
                self.check_desk(desk, other)
            self.check_rehearsal(desk, other, [self.random_change(dice, desk) for _ in range(3)])
            self.assertEqual(kept(Desk.replayed((hook("a", "default x 1"),), plan, desk.log)), kept(desk))
        wanted = {"UnknownHook", "TooMany", "ScopeError", "Broken", "put", "drop", "move", "use", "require"}
        self.assertEqual(set(seen), wanted)

    def check_change(self, desk, other, change, seen):
        call = getattr(desk, change[0])
        try:
            told = other.make(change)
        except Refused as refusal:
            self.refused(desk, refusal.args, call, *change[1:])
            seen[refusal.args[0]] = True
        else:
            self.assertEqual(call(*change[1:]), told)
            seen[change[0]] = True

    def check_desk(self, desk, other):
        hooks, plan, claims = other.keeps()
        self.check(desk, tuple([one[0] for one in hooks]), plan, current_of(hooks, plan), claims, tuple(other.log))
        self.assertEqual(desk.hooks, hooks)
        for claim in claims:
            self.assertIsNone(find_violation(desk.hook_set, desk.current, claim))

    def check_rehearsal(self, desk, other, changes):
        try:
            told = other.rehearse(changes)
        except Refused as refusal:
            self.refused(desk, refusal.args, desk.rehearse, tuple(changes))
        else:
            self.assertEqual(desk.rehearse(tuple(changes)), told)

    def test_what_is_told_is_where_the_plans_differ(self):
        desk = Desk(hooks_of(a="default x 1", b="when x > 5 then set y 1"), (("a", "b"), (), 0))
        before = (desk.hook_set, desk.current)
        told = desk.put(hook("b", "when x > 7 then set y 1"), 0)
        self.assertEqual(told, compare_plans(before[0], before[1], desk.hook_set, desk.current))
        self.assertEqual(told, doc({"x": 6}))


if __name__ == "__main__":
    unittest.main()

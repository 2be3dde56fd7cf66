"""Points 180 to 182: schedules from documents, conflicts, fights, and what ranks and marks tell of documents."""

import itertools
import unittest

from hookcheck.documents import compare_documents, document_of
from hookcheck.errors import Misfit, UnknownHook
from hookcheck.graphs import end_marks, heights
from hookcheck.hooks import HookSet
from hookcheck.parts import misfit
from hookcheck.schedules import call_bound, find_conflict, find_fight, follow
from hookcheck.tables import call_table, numbers_of

from tests.model import call_by_words
from tests.tools import (
    EACH_TEXTS, TEXTS, Dice, all_documents, contrary_hooks, crowded, doc, error_of, first_of, hooks_of, nodes_dict,
    random_hook_set, random_names,
)

HOOKS = hooks_of(a="default x 1", b="default x 2", c="when x > 1 then reject large")
UNITS = (("a",), ("b",), ("c",))
UP_DOWN = hooks_of(up="when x = 1 then set x 2", down="when x = 2 then set x 1", out="when x = 3 then reject three")
SMALL = all_documents(("a", "b"), 2, (None, 1, 2))


def call_words(hooks, unit, document):
    """("out", None), (None, the document), or ("done", result) for a call with an effect."""
    by_name = dict([(hook[0], hook) for hook in hooks])
    now, effective = nodes_dict(document), False
    for name in unit:
        done = call_by_words(by_name[name], now)
        if done[0] == "rejected":
            return ("out", None)
        now, effective = done[1], effective or done[2] != ()
    return ("done" if effective else None, document_of(tuple(now.items())))


def follow_by_words(hooks, units, document, schedule):
    """What follow returns."""
    for at, number in enumerate(schedule):
        told = call_words(hooks, units[number], document) if number < len(units) else (None, None)
        if told[0] is None or told[0] == "out" and at < len(schedule) - 1:
            return None
        if told[0] == "out":
            return ("end", None)
        document = told[1]
    at_rest = all(call_words(hooks, unit, document)[0] is None for unit in units)
    return ("end" if at_rest else "open", document)


def explored(hooks, units, document):
    """The first schedules from the document to each end, in order, and the first one that leads back, by breadth."""
    ends, back, seen = {}, None, {document}
    layer = [((), document)]
    while layer:
        following = []
        for schedule, reached in layer:
            told = [call_words(hooks, unit, reached) for unit in units]
            if all(one[0] is None for one in told):
                ends.setdefault(reached, schedule)
            for number, (word, result) in enumerate(told):
                if word == "out":
                    ends.setdefault(None, schedule + (number,))
                elif word == "done":
                    if result == document and back is None:
                        back = schedule + (number,)
                    if result not in seen:
                        seen.add(result)
                        following.append((schedule + (number,), result))
        layer = following
    pairs = sorted([(ends[end], end) for end in ends], key=lambda pair: (len(pair[0]), pair[0]))
    return pairs, back


class FollowTest(unittest.TestCase):
    def check(self, told, schedule, expected):
        if expected is not None and expected[1] is not None:
            expected = (expected[0], doc(expected[1]))
        self.assertEqual(follow(HOOKS, UNITS, doc(told), schedule), expected)

    def test_examples(self):
        self.check({}, (1,), ("open", {"x": 2}))
        self.check({}, (1, 2), ("end", None))
        self.check({}, (2,), None)

    def test_the_empty_schedule(self):
        self.check({}, (), ("open", {}))
        self.check({"x": 1}, (), ("end", {"x": 1}))
        self.check({"x": 2}, (), ("open", {"x": 2}))
        self.assertEqual(follow((), ((),), (), ()), ("end", ()))

    def test_schedules_that_end(self):
        self.check({}, (0,), ("end", {"x": 1}))
        self.check({"x": 7}, (2,), ("end", None))

    def test_no_schedules(self):
        self.check({}, (0, 0), None)
        self.check({}, (1, 2, 0), None)
        self.check({}, (1, 2, 2), None)
        self.check({"x": 1}, (0,), None)
        self.check({"x": 2}, (0, 2), None)

    def test_numbers_that_no_unit_has(self):
        for number in range(3, 10):
            self.check({}, (number,), None)
            self.check({}, (0, number), None)
            self.check({}, (1, 2, number), None)
        self.assertIsNone(follow(HOOKS, (("a",),), (), (1,)))

    def test_documents_that_fit_nothing(self):
        self.check({"x": {}}, (), ("end", {"x": {}}))
        self.check({"y": {"x": 1}}, (0,), ("end", {"x": 1, "y": {"x": 1}}))
        self.assertEqual(follow(hooks_of(a="set x.y 1"), (("a",),), doc({"x": 5}), (0,)), ("end", doc({"x": {"y": 1}})))

    def test_effects_that_lead_back(self):
        hooks = hooks_of(h="remove x and set x 1")
        self.assertEqual(follow(hooks, (("h",),), doc({"x": 1}), (0,) * 20), ("open", doc({"x": 1})))
        self.assertEqual(follow(UP_DOWN, (("up", "down"),), doc({"x": 1}), (0, 0)), ("open", doc({"x": 1})))
        self.assertEqual(follow(UP_DOWN, (("up",), ("down",)), doc({"x": 1}), (0, 1, 0)), ("open", doc({"x": 2})))
        self.assertIsNone(follow(UP_DOWN, (("up",), ("down",)), doc({"x": 1}), (0, 1, 1)))

    def test_empty_units_and_names_twice(self):
        self.assertIsNone(follow(HOOKS, ((), ("a", "a")), (), (0,)))
        self.assertEqual(follow(HOOKS, ((), ("a", "a")), (), (1,)), ("end", doc({"x": 1})))
        self.assertEqual(follow(HOOKS, (("b", "c"), ("a",)), (), (0,)), ("end", None))

    def test_random_schedules(self):
        dice = Dice(180)
        seen = {}
        for number in range(1000):
            hook_set = contrary_hooks(dice, TEXTS + EACH_TEXTS + TEXTS[4:5] * 5) if number % 4 else random_hook_set(dice, 60, 4)
            units = tuple([random_names(dice, hook_set.names, 2) for _ in range(dice.dice.randint(1, 4))])
            document = dice.document("ab", 2, (1, 2, 3), 0.8) if number % 4 else crowded(dice, hook_set.scope)
            schedule = ()
            for _ in range(dice.dice.randint(0, 4)):
                # Mostly one that goes on.
                longer = [schedule + (number,) for number in range(len(units))]
                good = [one for one in longer if follow_by_words(hook_set.hooks, units, document, one)]
                schedule = dice.one(good) if good and dice.chance(0.9) else dice.one(longer)
            told = follow(hook_set.hooks, units, document, schedule)
            self.assertEqual(told, follow_by_words(hook_set.hooks, units, document, schedule))
            word = None if told is None else (told[0], told[1] is None)
            seen[word] = seen.get(word, 0) + 1
        self.assertEqual(set(seen), {None, ("end", True), ("end", False), ("open", False)})
        self.assertGreater(min(seen.values()), 15)

    def test_unknown(self):
        for units, name in (
            ((("a", "x"), ("y",)), "x"), ((("a",), ("y", "z")), "y"), (((), (), ("b", "b", "z")), "z"),
        ):
            for schedule in ((), (0,), (9,)):
                self.assertEqual(error_of(follow, HOOKS, units, (), schedule), ("UnknownHook", name))
        self.assertRaises(UnknownHook, follow, (), (("a",),), (), ())


class ConflictTest(unittest.TestCase):
    def test_example(self):
        self.assertEqual(find_conflict(HookSet(HOOKS), UNITS), ((), ((0,), doc({"x": 1})), ((1, 2), None)))

    def test_none(self):
        self.assertIsNone(find_conflict(HookSet(HOOKS), (("a",), ("c",))))
        self.assertIsNone(find_conflict(HookSet(HOOKS), ((),)))
        self.assertIsNone(find_conflict(HookSet(()), ((), ())))
        self.assertIsNone(find_conflict(HookSet(UP_DOWN), (("up",), ("down",), ("out",))))

    def test_two_documents_at_the_end(self):
        self.assertEqual(
            find_conflict(HookSet(HOOKS), (("b",), ("a",))), ((), ((0,), doc({"x": 2})), ((1,), doc({"x": 1}))),
        )
        self.assertEqual(
            find_conflict(HookSet(HOOKS), (("c", "b"), ("b", "c"), ("a",))),
            ((), ((1,), None), ((2,), doc({"x": 1}))),
        )

    def test_one_unit_has_no_conflict(self):
        dice = Dice(1811)
        for _ in range(40):
            hook_set = random_hook_set(dice, 40, 4)
            self.assertIsNone(find_conflict(hook_set, (random_names(dice, hook_set.names, 4),)))

    def test_a_collection(self):
        hook_set = HookSet(hooks_of(a="each p when @.n > 5 then remove @.n", b="each p when @.n > 7 then reject no"))
        self.assertEqual(
            find_conflict(hook_set, (("a",), ("b",))),
            (doc({"p": {"a": {"n": 8}}}), ((0,), doc({"p": {"a": {}}})), ((1,), None)),
        )

    def test_of_small_documents(self):
        """The first document with a conflict, by going through all schedules of the small ones."""
        dice = Dice(181)
        some = [0, 0]
        for number in range(30):
            hook_set = contrary_hooks(dice, EACH_TEXTS + TEXTS[1:2] if number % 2 else TEXTS)
            units = tuple([(name,) for name in hook_set.names])
            fitting = [document for document in SMALL if misfit(hook_set.scope, document) is None]
            told = [(document,) + explored(hook_set.hooks, units, document) for document in fitting]
            self.check_first(find_conflict(hook_set, units), [
                (document, pairs[0], pairs[1]) for document, pairs, _ in told if len(pairs) > 1
            ], some)
            self.check_fight(find_fight(hook_set, units), [(one[0], one[2]) for one in told if one[2] is not None])
        self.assertGreater(min(some), 5)

    def check_first(self, found, all_of_them, some):
        first = first_of([one[0] for one in all_of_them])
        some[found is None] += 1
        if found is not None and found[0] in SMALL:
            self.assertIn(found, all_of_them)
            self.assertEqual(found[0], first)
        elif first is not None:
            self.assertEqual(compare_documents(found[0], first), -1)

    def check_fight(self, found, all_of_them):
        if found is None:
            self.assertEqual(all_of_them, [])
        for document, schedule in all_of_them:
            self.assertLessEqual(len(found[1]), len(schedule))
            if len(found[1]) == len(schedule):
                self.assertLessEqual(compare_documents(found[0], document), 0)
            if found[0] == document:
                self.assertEqual(found[1], schedule)

    def test_random_hook_sets(self):
        """The first of the samples, by going through their schedules."""
        dice = Dice(1810)
        some = [0, 0]
        for _ in range(80):
            hook_set = contrary_hooks(dice, TEXTS + EACH_TEXTS)
            units = tuple([(name,) + random_names(dice, hook_set.names, 1) for name in hook_set.names])
            conflict, fight = None, None
            for sample in hook_set.samples:
                pairs, back = explored(hook_set.hooks, units, sample)
                if len(pairs) > 1 and conflict is None:
                    conflict = (sample, pairs[0], pairs[1])
                if back is not None and (fight is None or len(back) < len(fight[1])):
                    fight = (sample, back)
            self.assertEqual(find_conflict(hook_set, units), conflict)
            self.assertEqual(find_fight(hook_set, units), fight)
            some[0] += conflict is not None
            some[1] += fight is not None
        self.assertGreater(min(some), 5)

    def test_unknown(self):
        for units, name in (
            ((("a", "x"), ("y",)), "x"), ((("a",), ("y", "z")), "y"), (((), (), ("b", "b", "z")), "z"),
        ):
            self.assertEqual(error_of(find_conflict, HookSet(HOOKS), units), ("UnknownHook", name))
            self.assertEqual(error_of(find_fight, HookSet(HOOKS), units), ("UnknownHook", name))


class FightTest(unittest.TestCase):
    def test_examples(self):
        self.assertIsNone(find_fight(HookSet(HOOKS), UNITS))
        self.assertEqual(find_fight(HookSet(hooks_of(h="remove x and set x 1")), (("h",),)), (doc({"x": 1}), (0,)))

    def test_the_example_of_the_introduction(self):
        hook_set = HookSet(hooks_of(
            mirror='each spec.containers when @.image = "proxy" then set @.image "local/proxy"',
            sidecar='when spec.mesh = true then default spec.containers.proxy.image "proxy"',
        ))
        self.assertIsNone(find_fight(hook_set, (("mirror",), ("sidecar",))))

    def test_several_units(self):
        hook_set = HookSet(UP_DOWN)
        self.assertEqual(find_fight(hook_set, (("up",), ("down",))), (doc({"x": 1}), (0, 1)))
        self.assertEqual(find_fight(hook_set, (("down",), ("up",))), (doc({"x": 1}), (1, 0)))
        self.assertEqual(find_fight(hook_set, (("down",), ("up",), ("down", "up"))), (doc({"x": 2}), (2,)))
        self.assertEqual(find_fight(hook_set, (("up", "down"), ("down", "up"))), (doc({"x": 1}), (0,)))
        self.assertIsNone(find_fight(hook_set, (("up",), ("out",))))

    def test_a_collection(self):
        hook_set = HookSet(hooks_of(a="each p when @ = 1 then set @ 2", b="each p when @ = 2 then set @ 1"))
        self.assertEqual(find_fight(hook_set, (("a",), ("b",))), (doc({"p": {"a": 1}}), (0, 1)))


class BoundTest(unittest.TestCase):
    def test_example(self):
        hook_set = HookSet(HOOKS)
        self.assertEqual(call_bound(hook_set, heights(call_table(hook_set, UNITS)), ()), 2)

    def test_sums(self):
        hook_set = HookSet(hooks_of(a="each p default @.n 1", b="each p when @.n > 1 then reject large"))
        ranks = (1, 10, 100, 1000, 0, 7)
        self.assertEqual(len(hook_set.samples), 6)
        for told, expected in (
            ({}, 1), ({"p": {}}, 10), ({"p": {"x": {}}}, 110), ({"p": {"x": {}, "y": {}}}, 210),
            ({"p": {"x": {}, "y": {"n": 5}, "z": {"n": 9}, "aa": {"n": "t"}, "ab": {"n": 1}}}, 1124),
        ):
            self.assertEqual(call_bound(hook_set, ranks, doc(told)), expected)

    def test_no_schedule_is_longer(self):
        dice = Dice(182)
        bounded, marked = 0, 0
        for _ in range(250):
            hook_set = random_hook_set(dice, 60, 3)
            units = tuple([random_names(dice, hook_set.names, 2) for _ in range(2)])
            table = call_table(hook_set, units)
            document = crowded(dice, hook_set.scope)
            if misfit(hook_set.scope, document) is not None:
                continue
            ranks = heights(table)
            pairs, back = explored(hook_set.hooks, units, document)
            if ranks is not None:
                bounded += 1
                bound = call_bound(hook_set, ranks, document)
                self.assertIsNone(back)
                self.assertEqual(bound, sum([ranks[number] for number in numbers_of(hook_set, document)]))
                for schedule in itertools.product((0, 1), repeat=min(bound + 1, 6)):
                    if len(schedule) > bound:
                        self.assertIsNone(follow(hook_set.hooks, units, document, schedule))
            if end_marks(table) is not None:
                marked += 1
                self.assertLessEqual(len(pairs), 1)
        self.assertGreater(min(bounded, marked), 40)

    def test_misfits(self):
        hook_set = HookSet(HOOKS)
        self.assertEqual(error_of(call_bound, hook_set, (0,) * 5, doc({"x": {}})), ("Misfit", "scalar", ("x",)))
        self.assertRaises(Misfit, call_bound, hook_set, (0,) * 5, doc({"x": {"y": 1}}))


if __name__ == "__main__":
    unittest.main()

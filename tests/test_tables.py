"""Points 160 and 161: call tables, outcome rows and the numbers of documents."""

import unittest

from hookcheck.documents import document_of
from hookcheck.errors import Misfit, UnknownHook
from hookcheck.hooks import HookSet
from hookcheck.parts import misfit, unnamed_entries
from hookcheck.plans import call_unit
from hookcheck.samples import samples_of
from hookcheck.tables import call_table, numbers_of, outcome_row

from tests.model import call_by_words, run_by_words
from tests.tools import (
    Dice, crowded, doc, error_of, hooks_of, nodes_dict, random_hook_set, random_names, random_plan,
)

LARGE = HookSet(hooks_of(a="default x 1", b="when x > 1 then reject large"))
ROUND = HookSet(hooks_of(flip="when x = 1 then remove x", back="when not has x then set x 1", same="set x 2 and set x 1"))
PARTS = HookSet(hooks_of(a="each p default @.n 1", b="each p when @.n > 1 then reject large", c="each p remove @.n"))


def move_by_words(hook_set, unit, sample):
    """The move of the unit in the row of the sample."""
    hooks = dict([(hook[0], hook) for hook in hook_set.hooks])
    now, effective = nodes_dict(sample), False
    for name in unit:
        done = call_by_words(hooks[name], now)
        if done[0] == "rejected":
            return "out"
        now, effective = done[1], effective or done[2] != ()
    return hook_set.samples.index(document_of(tuple(now.items()))) if effective else None


class CallTableTest(unittest.TestCase):
    def test_example(self):
        self.assertEqual(LARGE.samples, ((), doc({"x": None}), doc({"x": 1}), doc({"x": 2})))
        self.assertEqual(call_table(LARGE, (("a",), ("b",))), ((2, None), (None, None), (None, None), (None, "out")))

    def test_effects_that_lead_back(self):
        self.assertEqual(ROUND.samples, ((), doc({"x": None}), doc({"x": 1}), doc({"x": 2})))
        self.assertEqual(
            call_table(ROUND, (("same",), ("flip",), ("back",), ("flip", "back"))),
            ((2, None, 2, 2), (2, None, None, None), (2, 0, None, 2), (2, None, None, None)),
        )

    def test_units(self):
        self.assertEqual(call_table(LARGE, ((),)), ((None,), (None,), (None,), (None,)))
        self.assertEqual(call_table(LARGE, (("a", "b"), ())), ((2, None), (None, None), (None, None), ("out", None)))
        self.assertEqual(
            call_table(ROUND, (("flip", "flip"), ("same", "flip", "same"))), ((None, 2), (None, 2), (0, 2), (None, 2)),
        )
        self.assertEqual(call_table(LARGE, (("b",),) * 4)[3], ("out",) * 4)
        self.assertEqual(call_table(LARGE, (("b", "a"), ("b", "b", "b", "b")))[2:], ((None, None), ("out", "out")))

    def test_no_hooks(self):
        self.assertEqual(call_table(HookSet(()), ((), ())), ((None, None),))
        self.assertEqual(call_table(HookSet(hooks_of(no="reject no")), ((), ("no",))), ((None, "out"),))

    def test_a_collection(self):
        self.assertEqual(
            PARTS.samples, tuple([doc(told) for told in (
                {}, {"p": {}}, {"p": {"a": {}}}, {"p": {"a": {"n": None}}}, {"p": {"a": {"n": 1}}},
                {"p": {"a": {"n": 2}}},
            )]),
        )
        self.assertEqual(
            call_table(PARTS, (("a",), ("b",), ("c",))),
            ((None,) * 3, (None,) * 3, (4, None, None), (None, None, 2), (None, None, 2), (None, "out", 2)),
        )

    def test_random_hook_sets(self):
        dice = Dice(160)
        seen = {}
        for _ in range(60):
            hook_set = random_hook_set(dice, 60, 4)
            units = tuple([random_names(dice, hook_set.names, 4) for _ in range(dice.dice.randint(1, 4))])
            table = call_table(hook_set, units)
            self.assertEqual(len(table), len(hook_set.samples))
            for number, sample in enumerate(hook_set.samples):
                wanted = tuple([move_by_words(hook_set, unit, sample) for unit in units])
                self.assertEqual(table[number], wanted)
                for move in wanted:
                    seen["same" if move == number else "other" if isinstance(move, int) else move] = True
        self.assertEqual(set(seen), {None, "out", "same", "other"})

    def test_unknown(self):
        for units, name in (
            ((("a", "x"), ("y",)), "x"), (((), ("a", "y"), ("x",)), "y"), ((("b", "b", "b", "z"),), "z"),
        ):
            self.assertEqual(error_of(call_table, LARGE, units), ("UnknownHook", name))
        self.assertRaises(UnknownHook, call_table, HookSet(()), (("a",),))


class OutcomeRowTest(unittest.TestCase):
    def test_examples(self):
        self.assertEqual(outcome_row(LARGE, (("a", "b"), (), 0)), (2, 1, 2, None))
        self.assertEqual(outcome_row(LARGE, ((), (), 0)), (0, 1, 2, 3))
        self.assertEqual(outcome_row(LARGE, ((), ("a",), 1)), (None, 1, 2, 3))
        self.assertEqual(outcome_row(LARGE, ((), ("a", "b"), 2)), (2, 1, 2, None))

    def test_rejected_and_unsettled(self):
        self.assertEqual(outcome_row(ROUND, ((), ("flip", "back"), 6)), (None, 1, None, 3))
        self.assertEqual(outcome_row(ROUND, (("flip",), ("back",), 6)), (2, 1, 2, 3))
        self.assertEqual(outcome_row(ROUND, ((), ("same",), 6)), (None,) * 4)
        self.assertEqual(outcome_row(ROUND, (("same",), ("same",), 0)), (2,) * 4)
        self.assertEqual(outcome_row(HookSet(hooks_of(no="reject no")), (("no",), (), 0)), (None,))
        self.assertEqual(outcome_row(HookSet(()), ((), (), 6)), (0,))

    def test_random_hook_sets(self):
        dice = Dice(1600)
        for _ in range(60):
            hook_set = random_hook_set(dice, 60, 4)
            plan = random_plan(dice, hook_set.names)
            row = outcome_row(hook_set, plan)
            self.assertEqual(len(row), len(hook_set.samples))
            for sample, number in zip(hook_set.samples, row):
                status, now, _, _, _, _ = run_by_words(hook_set.hooks, plan, nodes_dict(sample))
                self.assertEqual(number is not None, status == "admitted")
                if number is not None:
                    self.assertEqual(hook_set.samples[number], document_of(tuple(now.items())))

    def test_unknown(self):
        for plan, name in (((("a", "x"), ("y",), 2), "x"), (((), ("a", "y"), 0), "y")):
            self.assertEqual(error_of(outcome_row, LARGE, plan), ("UnknownHook", name))


class NumbersTest(unittest.TestCase):
    def test_example(self):
        self.assertEqual(numbers_of(LARGE, doc({"x": 70, "owner": "ann"})), (3,))
        self.assertEqual(numbers_of(LARGE, ()), (0,))

    def test_unnamed_entries(self):
        self.assertEqual(numbers_of(PARTS, doc({"p": {}})), (1,))
        self.assertEqual(numbers_of(PARTS, doc({"p": {"x": {"n": 7}}})), (1, 5))
        self.assertEqual(
            numbers_of(PARTS, doc({"p": {"b": {"n": 1}, "x": {"m": 7}, "y": {"n": 1}, "aa": {"n": "t"}}})),
            (1, 4, 2, 4, 3),
        )

    def test_numbers_are_those_of_the_samples(self):
        dice = Dice(161)
        several = 0
        for _ in range(200):
            hook_set = random_hook_set(dice, 60, 4)
            document = crowded(dice, hook_set.scope)
            wrong = misfit(hook_set.scope, document)
            if wrong is not None:
                self.assertEqual(error_of(numbers_of, hook_set, document), ("Misfit",) + wrong)
                continue
            told = numbers_of(hook_set, document)
            several += len(told) > 2
            self.assertEqual(len(told), len(unnamed_entries(hook_set.scope, document)) + 1)
            self.assertEqual(tuple([hook_set.samples[number] for number in told]), samples_of(hook_set.scope, document))
            self.check_calls(dice, hook_set, document, told)
        self.assertGreater(several, 10)

    def check_calls(self, dice, hook_set, document, told):
        """The call table tells what calls do to any document."""
        units = tuple([random_names(dice, hook_set.names, 3) for _ in range(2)])
        table = call_table(hook_set, units)
        for place, unit in enumerate(units):
            moves = [table[number][place] for number in told]
            answer = call_unit(hook_set.hooks, unit, document)
            self.assertEqual(answer[0] == "rejected", "out" in moves)
            if answer[0] == "done":
                self.assertEqual(answer[2], moves != [None] * len(moves))
                after = [number if move is None else move for number, move in zip(told, moves)]
                self.assertEqual(set(numbers_of(hook_set, answer[1])), set(after))

    def test_samples_have_their_own_numbers_unless_they_have_second_scalars(self):
        self.assertEqual([numbers_of(LARGE, sample) for sample in LARGE.samples], [(0,), (1,), (2,), (3,)])
        self.assertEqual([numbers_of(PARTS, sample)[-1] for sample in PARTS.samples], [0, 1, 2, 3, 4, 5])
        tied = HookSet(hooks_of(a="default x from y"))
        self.assertEqual(numbers_of(tied, doc({"x": False})), numbers_of(tied, doc({"x": None})))

    def test_misfits(self):
        self.assertEqual(error_of(numbers_of, LARGE, doc({"x": {}})), ("Misfit", "scalar", ("x",)))
        self.assertEqual(error_of(numbers_of, PARTS, doc({"p": {"x": {"n": {}}, "b": 1}})),
                         ("Misfit", "record", ("p", "b")))
        self.assertRaises(Misfit, numbers_of, PARTS, doc({"p": 1}))


if __name__ == "__main__":
    unittest.main()

"""Points 167 to 169: plans of tables, rounds, and states that are told apart."""

import itertools
import unittest

from hookcheck.graphs import end_marks, table_conflict, table_fight
from hookcheck.hooks import HookSet
from hookcheck.tables import call_table
from hookcheck.walks import classes, round_ends, tell_apart, walk

from tests.graph_model import (
    all_tables, classes_by_words, random_table, round_by_words, tell_apart_by_words, tells_apart, walk_by_words,
)
from tests.model import run_by_words
from tests.tools import Dice, hooks_of, nodes_dict, random_hook_set, random_plan

TABLE = ((1, 2), (None, None), (3, "out"), (None, None))
RING = ((1,), (0,), (0,))
# Each state leads to the next one at place 0; only the last one is out at place 1.
LINE = ((1, None), (2, None), (3, None), (4, None), (4, "out"))


class WalkTest(unittest.TestCase):
    def check(self, table, plan, *told):
        self.assertEqual(tuple([walk(table, plan, state) for state in range(len(told))]), told)

    def test_examples(self):
        self.assertEqual(walk(TABLE, ((1,), (0,), 3), 0), ("admitted", 3, 2, 3))
        self.assertEqual(walk(TABLE, ((1, 1), (), 0), 0), ("rejected", 2, 0, 2))
        self.assertEqual(walk(TABLE, ((), (0,), 1), 0), ("unsettled", 1, 1, 1))

    def test_empty_first_and_again(self):
        for limit in range(7):
            self.check(TABLE, ((), (), limit), *[("admitted", state, 0, 0) for state in range(4)])
            self.check(TABLE, ((0,), (), limit), *[("admitted", state, 0, 1) for state in (1, 1, 3, 3)])
        self.check(TABLE, ((), (0,), 0), *[("admitted", state, 0, 0) for state in range(4)])
        self.check(TABLE, ((0,), (1,), 0), *[("admitted", state, 0, 1) for state in (1, 1, 3, 3)])

    def test_each_limit(self):
        for limit in range(1, 7):
            told = ("unsettled", limit, limit, limit) if limit < 5 else ("unsettled", 4, limit, limit)
            self.assertEqual(walk(LINE, ((), (0,), limit), 0), told)
        three = ((1,), (2,), (3,), (None,))
        for limit, told in enumerate((
            ("admitted", 0, 0, 0), ("unsettled", 1, 1, 1), ("unsettled", 2, 2, 2), ("unsettled", 3, 3, 3),
            ("admitted", 3, 4, 4), ("admitted", 3, 4, 4), ("admitted", 3, 4, 4),
        )):
            self.assertEqual(walk(three, ((), (0,), limit), 0), told)

    def test_a_move_to_the_own_row_is_effective(self):
        self.assertEqual(walk(((0,),), ((), (0,), 6), 0), ("unsettled", 0, 6, 6))
        self.assertEqual(walk(((0, None),), ((0,), (1,), 6), 0), ("admitted", 0, 1, 2))

    def test_out(self):
        self.assertEqual(walk(LINE, ((0, 0), (1, 0, 0), 6), 0), ("rejected", 4, 2, 6))
        self.assertEqual(walk(LINE, ((0, 0), (1, 0, 0), 1), 0), ("unsettled", 4, 1, 5))
        self.assertEqual(walk((("out",),), ((0, 0), (0,), 6), 0), ("rejected", 0, 0, 1))
        self.assertEqual(walk((("out",),), ((), (0,), 6), 0), ("rejected", 0, 1, 1))

    def test_a_pass_with_an_effect_in_one_of_its_calls(self):
        table = ((1, None), (None, None))
        self.assertEqual(walk(table, ((), (0, 1, 1), 2), 0), ("admitted", 1, 2, 6))
        self.assertEqual(walk(table, ((), (1, 0, 1), 1), 0), ("unsettled", 1, 1, 3))

    def test_all_small_tables(self):
        plans = [
            (first, again, limit) for limit in range(7)
            for first in ((), (0,), (1, 0)) for again in ((), (1,), (0, 1), (0, 0))
        ]
        for rows in (1, 2):
            for table in all_tables(rows, 2):
                for plan in plans:
                    for state in range(rows):
                        self.assertEqual(walk(table, plan, state), walk_by_words(table, plan, state), (table, plan))

    def test_drawn_tables(self):
        dice = Dice(167)
        for _ in range(300):
            moves = dice.dice.randint(1, 4)
            table = random_table(dice, dice.dice.randint(1, 12), moves)
            plan = random_plan(dice, range(moves))
            for state in range(len(table)):
                self.assertEqual(walk(table, plan, state), walk_by_words(table, plan, state))

    def test_as_the_plan_runs_on_the_samples(self):
        dice = Dice(1670)
        for _ in range(40):
            hook_set = random_hook_set(dice, 50, 4)
            table = call_table(hook_set, tuple([(name,) for name in hook_set.names]))
            plan = random_plan(dice, hook_set.names)
            places = [tuple([hook_set.names.index(name) for name in names]) for names in plan[:2]]
            for state, sample in enumerate(hook_set.samples):
                status, end, passes, calls = walk(table, (places[0], places[1], plan[2]), state)
                told = run_by_words(hook_set.hooks, plan, nodes_dict(sample))
                self.assertEqual((status, nodes_dict(hook_set.samples[end]), passes, calls), told[:4])


class RoundTest(unittest.TestCase):
    def test_examples(self):
        self.assertEqual(round_ends(TABLE), (1, 1, 3, 3))
        self.assertEqual(round_ends(RING), (None, None, None))

    def test_out(self):
        self.assertEqual(round_ends((("out", 0),)), ("out",))
        self.assertEqual(round_ends(((None, "out"),)), ("out",))
        self.assertEqual(round_ends(LINE), ("out",) * 5)
        self.assertEqual(round_ends(((1, None), (None, "out"))), ("out", "out"))

    def test_for_ever(self):
        self.assertEqual(round_ends(((0,),)), (None,))
        self.assertEqual(round_ends(((0, None), (None, 0), (None, None))), (None, None, 2))
        self.assertEqual(round_ends(((1, 0), (None, None))), (1, 1))
        self.assertEqual(round_ends(((1, None), (None, 0))), (None, None))
        # Each pass begins in another state, until one comes again.
        self.assertEqual(round_ends(((1,), (2,), (3,), (4,), (5,), (1,))), (None,) * 6)

    def test_long_rounds(self):
        rows = tuple([(number + 1,) for number in range(59)]) + ((None,),)
        self.assertEqual(round_ends(rows), (59,) * 60)
        self.assertEqual(round_ends(rows[:-1] + (("out",),)), ("out",) * 60)
        self.assertEqual(round_ends(rows[:-1] + ((59,),)), (None,) * 60)

    def test_all_small_tables(self):
        for rows, moves in itertools.product((1, 2, 3), (1, 2)):
            for table in all_tables(rows, moves):
                ends = tuple([round_by_words(table, state) for state in range(rows)])
                self.assertEqual(round_ends(table), ends)
                self.check_fights_and_conflicts(table, ends)

    def test_drawn_tables(self):
        dice = Dice(168)
        for _ in range(300):
            table = random_table(dice, dice.dice.randint(1, 20), dice.dice.randint(1, 4), dice.one((0, 0.1, 0.3)))
            ends = tuple([round_by_words(table, state) for state in range(len(table))])
            self.assertEqual(round_ends(table), ends)
            self.check_fights_and_conflicts(table, ends)

    def check_fights_and_conflicts(self, table, ends):
        """What the point says of tables without a fight."""
        if table_fight(table) is None:
            self.assertNotIn(None, ends)
            same = all(
                ends[state] == ("out" if move == "out" else ends[move])
                for state, row in enumerate(table) for move in row if move is not None
            )
            self.assertEqual(table_conflict(table) is None, same)
            if same:
                self.assertEqual(end_marks(table), ends)


class ApartTest(unittest.TestCase):
    def test_examples(self):
        self.assertEqual(tell_apart(TABLE, 0, 2), (1,))
        self.assertIsNone(tell_apart(TABLE, 1, 3))
        self.assertEqual(classes(TABLE), (0, 1, 2, 1))
        self.assertEqual(tell_apart(((1,), (2,), (None,), (0,)), 0, 3), (0, 0, 0))

    def test_the_same_state(self):
        for state in range(4):
            self.assertIsNone(tell_apart(TABLE, state, state))

    def test_the_first_place(self):
        self.assertEqual(tell_apart((("out", 0), (None, 0)), 0, 1), (0,))
        self.assertEqual(tell_apart(((0, "out", None), (1, "out", "out")), 0, 1), (2,))
        self.assertEqual(tell_apart(((0, 0), (1, None)), 0, 1), (1,))

    def test_later_places(self):
        self.assertEqual(tell_apart(LINE, 3, 4), (1,))
        self.assertEqual(tell_apart(LINE, 2, 3), (0, 1))
        self.assertEqual(tell_apart(LINE, 0, 1), (0, 0, 0, 1))
        self.assertEqual(tell_apart(LINE, 0, 4), (1,))
        self.assertEqual(classes(LINE), (0, 1, 2, 3, 4))

    def test_nothing_goes_on_behind_out(self):
        self.assertIsNone(tell_apart((("out", None), ("out", None)), 0, 1))
        self.assertEqual(classes((("out", None), ("out", None))), (0, 0))

    def test_moves_without_an_effect_stay(self):
        self.assertEqual(tell_apart(((None, 1), (None, "out")), 0, 1), (1,))
        self.assertEqual(tell_apart(((None, 1), (None, 2), (None, None)), 0, 1), (1, 1))

    def test_moves_to_the_same_row_and_to_the_own_one(self):
        self.assertIsNone(tell_apart(((2,), (2,), (None,)), 0, 1))
        self.assertIsNone(tell_apart(((0,), (1,)), 0, 1))
        self.assertIsNone(tell_apart(RING, 0, 2))
        self.assertEqual(tell_apart(((0,), (None,)), 0, 1), (0,))

    def test_as_long_as_there_are_rows_but_one(self):
        rows = tuple([(number + 1,) for number in range(29)]) + ((None,),)
        self.assertEqual(tell_apart(rows, 0, 1), (0,) * 29)
        self.assertEqual(tell_apart(rows, 1, 0), (0,) * 29)
        self.assertEqual(classes(rows), tuple(range(30)))

    def test_all_small_tables(self):
        for rows, moves, step in ((1, 1, 1), (1, 2, 1), (2, 1, 1), (2, 2, 1), (3, 1, 1), (3, 2, 11)):
            for table in itertools.islice(all_tables(rows, moves), 0, None, step):
                self.check(table)

    def test_drawn_tables(self):
        dice = Dice(169)
        for _ in range(60):
            self.check(random_table(dice, dice.dice.randint(1, 6), dice.dice.randint(1, 2), 0.5))
        for _ in range(60):
            table = random_table(dice, dice.dice.randint(10, 40), dice.dice.randint(1, 4), 0.2)
            found = classes(table)
            for first, second in itertools.combinations(range(0, len(table), 3), 2):
                places = tell_apart(table, first, second)
                self.assertEqual(places is None, found[first] == found[second])
                self.assertTrue(places is None or tells_apart(table, first, second, places))

    def check(self, table):
        for first in range(len(table)):
            for second in range(len(table)):
                self.assertEqual(tell_apart(table, first, second), tell_apart_by_words(table, first, second), table)
        self.assertEqual(classes(table), classes_by_words(table))

    def test_classes_are_numbered_by_their_first_states(self):
        table = ((None, "out"), (0, None), (None, "out"), (2, None), (None, None), (4, None))
        self.assertEqual(classes(table), (0, 1, 0, 1, 2, 3))
        self.assertEqual(classes(((None,),)), (0,))

    def test_call_tables(self):
        hook_set = HookSet(hooks_of(a="default x 1", b="when x > 1 then reject large"))
        self.assertEqual(classes(call_table(hook_set, (("a",), ("b",)))), (0, 1, 1, 2))


if __name__ == "__main__":
    unittest.main()

"""Points 162 to 166: schedules of tables, their ends, conflicts, fights, ranks, heights and marks."""

import itertools
import unittest

from hookcheck.graphs import (
    end_marks, ends_from, heights, table_conflict, table_fight, takes_marks, takes_ranks,
)
from hookcheck.hooks import HookSet
from hookcheck.tables import call_table

from tests.graph_model import (
    all_tables, conflict_by_words, end_marks_by_words, ends_by_words, fight_by_words, heights_by_words,
    marks_by_words, random_table, ranks_by_words,
)
from tests.tools import Dice, hooks_of

TABLE = ((1, 2), (None, None), (3, "out"), (None, None))
RING = ((1,), (0,), (0,))
REST = ((None, None),)
SELF = ((0,),)
# Three ways to row 5: by one move, by two and by three.
WAYS = ((1, 5, 2), (2, None, None), (None, 5, 5), (None, None, 5), (3, 3, 5), (None, None, None))


def chain(rows, moves):
    """Each row leads to the next one by each of its moves, so there are very many schedules."""
    return tuple([(number + 1,) * moves for number in range(rows - 1)]) + ((None,) * moves,)


class EndsTest(unittest.TestCase):
    def test_example(self):
        self.assertEqual(ends_from(TABLE, 0), (((0,), 1), ((1, 0), 3), ((1, 1), "out")))
        self.assertEqual(ends_from(TABLE, 2), (((0,), 3), ((1,), "out")))

    def test_at_rest(self):
        self.assertEqual(ends_from(REST, 0), (((), 0),))
        self.assertEqual(ends_from(TABLE, 1), (((), 1),))

    def test_moves_to_the_own_row_are_effective(self):
        self.assertEqual(ends_from(SELF, 0), ())
        self.assertEqual(ends_from(((0, "out"),), 0), (((1,), "out"),))
        self.assertEqual(ends_from(((0, 1), (None, None)), 0), (((1,), 1),))

    def test_rings(self):
        for state in range(3):
            self.assertEqual(ends_from(RING, state), ())
        left = ((1, None), (2, None), (0, 3), (None, None))
        self.assertEqual([ends_from(left, state) for state in range(4)],
                         [(((0, 0, 1), 3),), (((0, 1), 3),), (((1,), 3),), (((), 3),)])

    def test_the_first_schedule(self):
        self.assertEqual(ends_from(WAYS, 0), (((1,), 5),))
        self.assertEqual(ends_from(WAYS, 1), (((0, 1), 5),))
        self.assertEqual(ends_from(WAYS, 4), (((2,), 5),))
        same = ((1, 2, 1), (None, 3, 3), (3, None, None), (None, None, None))
        self.assertEqual(ends_from(same, 0), (((0, 1), 3),))

    def test_the_order_is_that_of_the_schedules(self):
        table = ((3, "out", 1), (None, None, None), (None, None, None), (2, 2, "out"))
        self.assertEqual(ends_from(table, 0), (((1,), "out"), ((2,), 1), ((0, 0), 2)))
        deep = ((2, 1), (None, 3), ("out", None), (None, None))
        self.assertEqual(ends_from(deep, 0), (((0, 0), "out"), ((1, 1), 3)))

    def test_out_is_one_end(self):
        self.assertEqual(ends_from((("out", "out"),), 0), (((0,), "out"),))
        self.assertEqual(ends_from(((1, "out"), ("out", None)), 0), (((1,), "out"),))

    def test_all_small_tables(self):
        for rows, moves in itertools.product((1, 2, 3), (1, 2)):
            for table in all_tables(rows, moves):
                for state in range(rows):
                    self.assertEqual(ends_from(table, state), ends_by_words(table, state), table)
                self.check_all(table, True)

    def test_drawn_tables(self):
        dice = Dice(162)
        for number in range(60):
            rows, moves = dice.dice.randint(1, 8 if number % 2 else 20), dice.dice.randint(1, 4)
            self.check_drawn(random_table(dice, rows, moves, dice.one((0, 0.1, 0.3))))
        for back in (0, 0.05):
            self.check_drawn(random_table(dice, 60, 4, back))

    def check_drawn(self, table):
        for state in range(len(table)):
            self.assertEqual(ends_from(table, state), ends_by_words(table, state, False))
        self.check_all(table, False)

    def check_all(self, table, every):
        self.assertEqual(table_conflict(table), conflict_by_words(table, every))
        self.assertEqual(table_fight(table), fight_by_words(table))
        self.assertEqual(heights(table), heights_by_words(table))
        self.assertEqual(end_marks(table), end_marks_by_words(table, every))

    def test_many_schedules(self):
        table = chain(60, 4)
        self.assertEqual(ends_from(table, 0), (((0,) * 59, 59),))
        self.assertEqual(heights(table), tuple(range(59, -1, -1)))
        self.assertEqual(end_marks(table), (59,) * 60)
        self.assertIsNone(table_conflict(table))
        self.assertIsNone(table_fight(table))
        back = table[:-1] + ((None, None, 0, 1),)
        self.assertEqual(table_fight(back), (1, (0,) * 58 + (3,)))
        self.assertEqual(end_marks(back), ("open",) * 60)


class ConflictTest(unittest.TestCase):
    def test_example(self):
        self.assertEqual(table_conflict(TABLE), (0, ((0,), 1), ((1, 0), 3)))
        self.assertEqual(table_conflict(TABLE[1:2] * 3 + TABLE[2:]), None)

    def test_none(self):
        for table in (REST, SELF, RING, WAYS, ((1, "out"), ("out", None)), chain(5, 2)):
            self.assertIsNone(table_conflict(table))

    def test_the_least_of_several_states(self):
        table = ((None, None), (0, 2), ("out", 0), (2, "out"))
        self.assertEqual(table_conflict(table), (1, ((0,), 0), ((1, 0), "out")))
        self.assertEqual(table_conflict(table[:1] + ((0, None),) + table[2:]), (2, ((0,), "out"), ((1,), 0)))

    def test_out_and_a_state(self):
        self.assertEqual(table_conflict(((1, "out"), (None, None))), (0, ((0,), 1), ((1,), "out")))

    def test_an_end_and_a_ring_are_no_conflict(self):
        self.assertIsNone(table_conflict(((0, 1), (None, None))))


class FightTest(unittest.TestCase):
    def test_examples(self):
        self.assertIsNone(table_fight(TABLE))
        self.assertEqual(table_fight(RING), (0, (0, 0)))

    def test_own_rows(self):
        self.assertEqual(table_fight(SELF), (0, (0,)))
        self.assertEqual(table_fight(((1, 1), (None, 1))), (1, (1,)))
        self.assertEqual(table_fight(((None, 1, 0), (1, 1, 1))), (0, (2,)))

    def test_the_shortest_first(self):
        table = ((1, None), (2, None), (0, 3), (2, None))
        self.assertEqual(table_fight(table), (2, (1, 0)))
        self.assertEqual(table_fight(table[:3] + ((None, None),)), (0, (0, 0, 0)))

    def test_the_least_state_and_the_first_schedule(self):
        self.assertEqual(table_fight(((None, 2), (2, None), (0, 1))), (0, (1, 0)))
        self.assertEqual(table_fight(((None, None), (2, 2), (None, 1))), (1, (0, 1)))

    def test_leaving_is_no_fight(self):
        self.assertIsNone(table_fight(((None, "out"), (0, 0))))
        self.assertIsNone(table_fight(REST))


class RanksTest(unittest.TestCase):
    def test_examples(self):
        self.assertTrue(takes_ranks(TABLE, (5, 0, 4, 3)))
        self.assertIs(takes_ranks(TABLE, (1, 0, 1, 0)), False)
        self.assertEqual(heights(TABLE), (2, 0, 1, 0))
        self.assertIsNone(heights(RING))

    def test_too_few_and_too_many(self):
        for ranks in ((), (2, 0, 1), (2, 0, 1, 0, 0), (9,) * 200):
            self.assertIs(takes_ranks(TABLE, ranks), False)
        self.assertIs(takes_ranks(TABLE, (2, 0, 1, 0)), True)

    def test_too_small_at_one_place(self):
        found = heights(WAYS)
        self.assertEqual(found, (3, 2, 1, 1, 2, 0))
        self.assertIs(takes_ranks(WAYS, found), True)
        for place in range(5):
            smaller = found[:place] + (found[place] - 1,) + found[place + 1:]
            self.assertIs(takes_ranks(WAYS, smaller), False)
        self.assertIs(takes_ranks(WAYS, (50, 20, 10, 10, 15, 3)), True)
        self.assertIs(takes_ranks(WAYS, (50, 20, 10, 15, 15, 3)), False)

    def test_out_needs_a_rank_of_1(self):
        self.assertEqual(heights((("out",),)), (1,))
        self.assertIs(takes_ranks((("out",),), (0,)), False)
        self.assertIs(takes_ranks((("out",),), (1,)), True)
        self.assertIs(takes_ranks((("out",),), (1000,)), True)
        self.assertIs(takes_ranks(REST, (0,)), True)

    def test_fights_have_no_ranks(self):
        for ranks in itertools.product(range(5), repeat=3):
            self.assertIs(takes_ranks(RING, ranks), False)
        self.assertIs(takes_ranks(SELF, (1,)), False)
        self.assertIs(takes_ranks(SELF, (1000,)), False)

    def test_all_ranks_of_small_tables(self):
        for rows, moves in itertools.product((1, 2, 3), (1, 2)):
            for table in itertools.islice(all_tables(rows, moves), 0, None, 37 if rows * moves > 4 else 1):
                taken = []
                for ranks in itertools.product(range(rows + 1), repeat=rows):
                    told = takes_ranks(table, ranks)
                    self.assertIs(told, ranks_by_words(table, ranks))
                    if told:
                        taken.append(ranks)
                least = heights(table)
                self.assertEqual(least is None, taken == [])
                if taken:
                    self.assertIn(least, taken)
                    self.assertEqual(least, tuple([min(column) for column in zip(*taken)]))

    def test_drawn_tables(self):
        dice = Dice(165)
        for _ in range(60):
            table = random_table(dice, dice.dice.randint(1, 30), dice.dice.randint(1, 4), dice.one((0, 0, 0.02)))
            ranks = heights(table)
            if ranks is not None:
                self.assertTrue(takes_ranks(table, ranks))
                for place in range(len(table)):
                    for change in (-1, 1, 3):
                        other = ranks[:place] + (ranks[place] + change,) + ranks[place + 1:]
                        if min(other) >= 0:
                            self.assertIs(takes_ranks(table, other), ranks_by_words(table, other))


class MarksTest(unittest.TestCase):
    def test_examples(self):
        self.assertIsNone(end_marks(TABLE))
        self.assertEqual(end_marks(RING), ("open", "open", "open"))
        self.assertIs(takes_marks(RING, ("open", "open", 7)), True)
        self.assertIs(takes_marks(RING, ("open", 7, "open")), False)
        self.assertIs(takes_marks(RING, (7, 7, 7)), True)

    def test_ends(self):
        self.assertEqual(end_marks(WAYS), (5,) * 6)
        self.assertEqual(end_marks(((1, "out"), ("out", None), (None, None), (3, 3))), ("out", "out", 2, "open"))
        self.assertEqual(end_marks(((0, 1), (None, None))), (1, 1))

    def test_too_few_and_too_many(self):
        for marks in ((), (5,) * 5, (5,) * 7, ("open",) * 200):
            self.assertIs(takes_marks(WAYS, marks), False)

    def test_at_rest(self):
        self.assertIs(takes_marks(REST, (0,)), True)
        for mark in ("open", "out", 1, 999):
            self.assertIs(takes_marks(REST, (mark,)), False)

    def test_out(self):
        for mark in ("open", 0, 7):
            self.assertIs(takes_marks((("out",),), (mark,)), False)
        self.assertIs(takes_marks((("out",),), ("out",)), True)
        self.assertIs(takes_marks((("out", 0),), ("out",)), True)
        self.assertIs(takes_marks((("out", 1), (1, 1)), ("out", "open")), True)

    def test_states_that_are_not_at_rest_and_no_rows(self):
        self.assertIs(takes_marks(((1,), (0,)), (0, 0)), True)
        self.assertIs(takes_marks(((1,), (0,)), (1, 0)), False)
        self.assertIs(takes_marks(((1,), (0,)), (999, 999)), True)
        self.assertIs(takes_marks(((1,), (0,)), (999, "open")), False)
        self.assertIs(takes_marks(((1,), (None,)), (999, 1)), False)
        self.assertIs(takes_marks(((1,), (None,)), (1, 1)), True)

    def test_open(self):
        self.assertIs(takes_marks(((0, 1), (None, None)), ("open", 1)), False)
        self.assertIs(takes_marks(((0, 0), (None, None)), ("open", 1)), True)
        self.assertIs(takes_marks(((1, 2), (1, None), (None, None)), (2, "open", 2)), True)
        self.assertIs(takes_marks(((1, 2), (1, None), (None, None)), ("open", "open", 2)), False)

    def test_conflicts_have_no_marks(self):
        table = ((1, 2), (None, None), (None, None))
        for marks in itertools.product(["open", "out", 0, 1, 2, 3], repeat=3):
            self.assertIs(takes_marks(table, marks), False)

    def test_all_marks_of_small_tables(self):
        for rows, moves in itertools.product((1, 2, 3), (1, 2)):
            for table in itertools.islice(all_tables(rows, moves), 0, None, 37 if rows * moves > 4 else 1):
                found = False
                for marks in itertools.product(["open", "out"] + list(range(rows + 1)), repeat=rows):
                    told = takes_marks(table, marks)
                    self.assertIs(told, marks_by_words(table, marks), (table, marks))
                    found = found or told
                told = end_marks(table)
                self.assertEqual(told is None, not found)
                if told is not None:
                    self.assertIs(takes_marks(table, told), True)

    def test_drawn_tables(self):
        dice = Dice(166)
        for _ in range(300):
            table = random_table(dice, dice.dice.randint(1, 20), dice.dice.randint(1, 4), dice.one((0, 0.1, 0.3)))
            marks = end_marks(table)
            if marks is not None:
                self.assertTrue(takes_marks(table, marks))
                for place in range(len(table)):
                    for mark in ("open", "out", place, len(table) - 1, 999):
                        other = marks[:place] + (mark,) + marks[place + 1:]
                        self.assertIs(takes_marks(table, other), marks_by_words(table, other))


class CallTablesTest(unittest.TestCase):
    def test_call_tables_are_tables(self):
        hook_set = HookSet(hooks_of(a="default x 1", b="default x 2", c="when x > 1 then reject large"))
        table = call_table(hook_set, (("a",), ("b",), ("c",)))
        self.assertEqual(table_conflict(table), (0, ((0,), 2), ((1, 2), "out")))
        self.assertEqual(heights(table), (2, 0, 0, 1, 1))
        self.assertTrue(takes_ranks(table, heights(table)))

    def test_a_call_table_with_many_rows(self):
        removes = {key: f"remove {key}" for key in "abc"}
        hook_set = HookSet(hooks_of(**removes, d=("remove d", "remove e", "remove f")))
        table = call_table(hook_set, (("a",), ("b",), ("c",), ("d",)))
        self.assertEqual(len(table), 64)
        self.assertEqual(max(heights(table)), 4)
        self.assertIsNone(table_conflict(table))
        self.assertEqual(end_marks(table), (0,) * 64)


if __name__ == "__main__":
    unittest.main()

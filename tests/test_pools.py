"""Points 105 and 107: tests, alike scalars and pools."""

import functools
import itertools
import unittest

from hookcheck.documents import compare_scalars
from hookcheck.pools import alike, passes, pool_of

from tests.tools import Dice, value

SCALARS = [
    value(told) for told in (None, False, True, "", " ", "-", "0", "1", "5", "a", "b", "z", "aa", "true", "null")
]
SCALARS += [("number", n) for n in range(-40, 41)] + [("number", n) for n in (-10 ** 9, 10 ** 9, -10 ** 20, 10 ** 20)]


def equal(told):
    return ("=", value(told))


def numbers(*told):
    return tuple([("number", n) for n in told])


def pool_by_words(tests, many, scalars):
    """The first so many of each class among the scalars, which are ascending."""
    found = []
    for scalar in scalars:
        same = [other for other in found if all(passes(test, other) == passes(test, scalar) for test in tests)]
        if len(same) < many:
            found.append(scalar)
    return tuple(found)


class PassesTest(unittest.TestCase):
    def test_equal(self):
        for literal in (None, True, False, 0, 1, -1, 5, "1", "true", "5"):
            for scalar in SCALARS:
                self.assertIs(passes(equal(literal), scalar), scalar == value(literal), (literal, scalar))

    def test_less_and_greater(self):
        for bound in (-999999, -3, 0, 1, 5, 999999):
            for scalar in SCALARS:
                number = scalar[0] == "number"
                self.assertIs(passes(("<", bound), scalar), number and scalar[1] < bound, (bound, scalar))
                self.assertIs(passes((">", bound), scalar), number and scalar[1] > bound, (bound, scalar))

    def test_next_to_the_bound(self):
        for bound in (-7, 0, 9):
            told = [passes(("<", bound), ("number", bound + step)) for step in (-1, 0, 1)]
            self.assertEqual(told, [True, False, False])
            told = [passes((">", bound), ("number", bound + step)) for step in (-1, 0, 1)]
            self.assertEqual(told, [False, False, True])


class AlikeTest(unittest.TestCase):
    def test_examples(self):
        self.assertIs(alike(((">", 5),), ("number", 5), ("text", "x")), True)
        self.assertIs(alike(((">", 5),), ("number", 5), ("number", 6)), False)

    def test_no_tests(self):
        for first, second in itertools.product(SCALARS[:20], repeat=2):
            self.assertIs(alike((), first, second), True)

    def test_of_several_tests(self):
        tests = ((">", 5), equal(7), ("<", 2), equal("a"))
        groups = ([1, 0, -5], [6, 8, 10 ** 20], [7], ["a"], [2, 3, 5, None, True, "", "b"])
        for one, other in itertools.product(range(5), repeat=2):
            for first, second in itertools.product(groups[one], groups[other]):
                self.assertIs(alike(tests, value(first), value(second)), one == other, (first, second))

    def test_a_scalar_with_its_own_test_is_alike_to_no_other_one(self):
        for literal in (True, False, 0, 7, "a"):
            for scalar in SCALARS:
                told = alike((equal(literal),), value(literal), scalar)
                self.assertIs(told, scalar == value(literal))


class PoolTest(unittest.TestCase):
    def check(self, tests, one, two):
        for order in itertools.permutations(tests) if len(tests) < 5 else (tests, tests[::-1]):
            self.assertEqual(pool_of(tuple(order), 1), tuple([value(told) for told in one]))
            self.assertEqual(pool_of(tuple(order), 2), tuple([value(told) for told in two]))

    def test_examples(self):
        self.assertEqual(pool_of(((">", 5), equal(7)), 1), (("null",),) + numbers(6, 7))
        self.assertEqual(pool_of(((">", 5), equal(7)), 2), (("null",), ("false",)) + numbers(6, 7, 8))
        self.check(((">", 5), equal(7)), [None, 6, 7], [None, False, 6, 7, 8])

    def test_no_tests(self):
        self.check((), [None], [None, False])

    def test_one_test(self):
        self.check((equal(0),), [None, 0], [None, False, 0])
        self.check((equal(True),), [None, True], [None, False, True])
        self.check((equal(False),), [None, False], [None, False, True])
        self.check((equal("x"),), [None, "x"], [None, False, "x"])
        self.check((equal(None),), [None, False], [None, False, True])
        self.check((("<", 0),), [None, -1], [None, False, -1, -2])
        self.check((("<", 5),), [None, 0], [None, False, 0, 1])
        self.check((("<", 1),), [None, 0], [None, False, 0, -1])
        self.check((("<", -3),), [None, -4], [None, False, -4, -5])
        self.check(((">", 0),), [None, 1], [None, False, 1, 2])
        self.check(((">", -1),), [None, 0], [None, False, 0, 1])
        self.check(((">", -5),), [None, 0], [None, False, 0, 1])
        self.check(((">", 999999),), [None, 1000000], [None, False, 1000000, 1000001])
        self.check((("<", -999999),), [None, -1000000], [None, False, -1000000, -1000001])

    def test_equal_literals_take_the_place_of_false_and_true(self):
        self.check((equal(True), equal(False)), [None, False, True], [None, False, True, 0])
        self.check((equal(True), equal(False), equal(0)), [None, False, True, 0], [None, False, True, 0, 1])
        self.check((equal(True), equal(False), equal(0), equal(1)), [None, False, True, 0, 1],
                   [None, False, True, 0, 1, -1])

    def test_all_numbers_but_one_pass_a_test(self):
        self.check((("<", 5), (">", 5)), [None, 0, 6], [None, False, 0, 1, 6, 7])
        self.check((("<", 5), (">", 3)), [None, 0, 4, 5], [None, False, 0, 1, 4, 5, 6])
        self.check((("<", 5), (">", 4)), [None, 0, 5], [None, False, 0, 1, 5, 6])

    def test_the_empty_text(self):
        tests = (equal(True), equal(False), ("<", 1), (">", -1), ("<", 0))
        self.check(tests, [None, False, True, 0, 1, -1], [None, False, True, 0, 1, -1, 2, -2, ""])
        self.check((equal(""),), [None, ""], [None, False, ""])

    def test_tests_that_overlap(self):
        self.check((("<", 3), ("<", 8)), [None, 0, 3], [None, False, 0, 1, 3, 4])
        self.check(((">", 2), ("<", 4)), [None, 0, 3, 4], [None, False, 0, 1, 3, 4, 5])
        self.check(((">", 2), ("<", 4), equal(3)), [None, 0, 3, 4], [None, False, 0, 1, 3, 4, 5])
        self.check(((">", 3), equal(4), equal(5)), [None, 4, 5, 6], [None, False, 4, 5, 6, 7])

    def test_tests_that_exclude_each_other(self):
        self.check(((">", 8), ("<", 3)), [None, 0, 9], [None, False, 0, 1, 9, 10])
        self.check((equal("b"), equal("a"), equal("aa")), [None, "a", "b", "aa"], [None, False, "a", "b", "aa"])

    def test_a_test_more_than_once(self):
        self.check((("<", 3), ("<", 3), equal(1), equal(1)), [None, 0, 1], [None, False, 0, 1, -1])

    def test_far_numbers(self):
        self.check(((">", 500), ("<", 502)), [None, 0, 501, 502], [None, False, 0, 1, 501, 502, 503])
        self.check(((">", -500), ("<", -498)), [None, 0, -499, -500], [None, False, 0, 1, -499, -500, -501])
        self.check((("<", -500), ("<", -502)), [None, -501, -503], [None, False, -501, -502, -503, -504])

    def test_random_tests_by_the_words(self):
        ordered = sorted(
            SCALARS[:15] + [("number", n) for n in range(-30, 31)], key=functools.cmp_to_key(compare_scalars),
        )
        dice = Dice(107)
        for _ in range(400):
            tests = []
            for _ in range(dice.dice.randint(0, 12)):
                word = dice.one("=<>")
                number = dice.dice.randint(-9, 9)
                literal = dice.one((number, number, True, False, "a", "1"))
                tests.append(equal(literal) if word == "=" else (word, number))
            for many in (1, 2):
                self.assertEqual(pool_of(tuple(tests), many), pool_by_words(tests, many, ordered), tests)

    def test_pools_are_ascending_with_as_many_members_as_there_are(self):
        dice = Dice(108)
        for _ in range(100):
            tests = tuple([(dice.one("<>"), dice.dice.randint(-999999, 999999)) for _ in range(12)])
            one, two = pool_of(tests, 1), pool_of(tests, 2)
            for pool in (one, two):
                for first, second in zip(pool, pool[1:]):
                    self.assertEqual(compare_scalars(first, second), -1)
            self.assertEqual(len([scalar for scalar in two if scalar not in one]), sum(
                [any(alike(tests, scalar, other) for other in two if other != scalar) for scalar in one]
            ))


if __name__ == "__main__":
    unittest.main()

"""Points 60 to 64: entries, conditions, alternatives and claims."""

import itertools
import unittest

from hookcheck.conditions import alternatives, breaches, entries, holds
from hookcheck.documents import nodes, with_scalar
from hookcheck.reader import read_claim

DOCUMENT = (("p", ("record", (("b", ("number", 5)), ("aa", ("record", ()))))),)
VALUES = [
    None, ("null",), ("false",), ("true",), ("number", 0), ("number", 1), ("number", -1), ("number", 5),
    ("number", 1000000000), ("text", ""), ("text", "1"), ("text", "true"), ("text", "5"), ("record", ()),
    ("record", (("x", ("number", 1)),)),
]
LITERALS = [
    ("true",), ("false",), ("number", 0), ("number", 1), ("number", -1), ("number", 5), ("text", "1"), ("text", "true"),
]


def path(*keys):
    return ("path", keys)


def entry(*keys):
    return ("entry", keys)


def condition_of(text):
    return read_claim(text)[1]


A, B, C, D = [("has", path(key)) for key in "abcd"]


class EntriesTest(unittest.TestCase):
    def test_examples(self):
        self.assertEqual(entries(DOCUMENT, ("p",)), (("p", "b"), ("p", "aa")))
        self.assertEqual(entries(DOCUMENT, ("p", "b")), ())

    def test_absent_scalar_and_empty_record(self):
        document = (("a", ("null",)), ("b", ("record", ())), ("c", ("record", (("d", ("record", ())),))))
        self.assertEqual(entries(document, ("a",)), ())
        self.assertEqual(entries(document, ("b",)), ())
        self.assertEqual(entries(document, ("x",)), ())
        self.assertEqual(entries(document, ("a", "x")), ())
        self.assertEqual(entries(document, ("x", "y")), ())
        self.assertEqual(entries(document, ("c",)), (("c", "d"),))
        self.assertEqual(entries(document, ("c", "d")), ())
        self.assertEqual(entries((), ("a",)), ())

    def test_keys_of_different_length_and_only_those_directly_below(self):
        below = ("record", (("k", ("null",)), ("kk", ("null",))))
        fields = (("b", below), ("z", ("false",)), ("a-", below), ("a0", ("text", "")), ("aaa", ("record", ())))
        document = (("q", ("record", (("p", ("record", fields)),))),)
        self.assertEqual(entries(document, ("q", "p")), (
            ("q", "p", "b"), ("q", "p", "z"), ("q", "p", "a-"), ("q", "p", "a0"), ("q", "p", "aaa"),
        ))
        self.assertEqual(entries(document, ("q",)), (("q", "p"),))
        self.assertEqual(entries(document, ("q", "p", "a-")), (("q", "p", "a-", "k"), ("q", "p", "a-", "kk")))

    def test_any_path(self):
        self.assertEqual(entries(DOCUMENT + (("q", ("null",)),), ()), (("p",), ("q",)))
        self.assertEqual(entries((), ()), ())
        deep = with_scalar((), ("a", "b", "c", "d", "e"), ("null",))
        self.assertEqual(entries(deep, ("a", "b", "c", "d")), (("a", "b", "c", "d", "e"),))
        self.assertEqual(entries(deep, ("a", "b", "c", "d", "e")), ())


class AtomTest(unittest.TestCase):
    def test_examples(self):
        self.assertIs(holds((">", entry(), 4), DOCUMENT, entry=("p", "b")), True)
        self.assertIs(holds(("has", path("q")), DOCUMENT), False)
        document = (("a", ("number", 5)), ("b", ("record", ())), ("c", ("text", "5")))
        for text in ("a > 4", "has b", "not c = 5", "not d < 0"):
            self.assertIs(holds(condition_of(text), document), True, text)
        for text in ("b = 5", "c > 4", "has d", "d < 0"):
            self.assertIs(holds(condition_of(text), document), False, text)

    def test_all_values(self):
        for value in VALUES:
            document = () if value is None else (("a", value),)
            self.assertIs(holds(("has", path("a")), document), value is not None)
            for literal in LITERALS:
                self.assertIs(holds(("=", path("a"), literal), document), value == literal, (value, literal))
            for n in (-2, -1, 0, 1, 4, 5, 6, 999999):
                number = value[1] if value is not None and value[0] == "number" else None
                less = number is not None and number < n
                greater = number is not None and number > n
                self.assertIs(holds(("<", path("a"), n), document), less, (value, n))
                self.assertIs(holds((">", path("a"), n), document), greater, (value, n))

    def test_longer_paths(self):
        document = (("a", ("record", (("b", ("record", (("c", ("record", (("d", ("number", 3)),))),))),))),)
        self.assertIs(holds(("=", path("a", "b", "c", "d"), ("number", 3)), document), True)
        self.assertIs(holds(("has", path("a", "b", "c")), document), True)
        self.assertIs(holds(("has", path("a", "b", "d")), document), False)
        self.assertIs(holds(("<", path("a", "b", "c"), 9), document), False)
        self.assertIs(holds(("has", path("d")), document), False)

    def test_places_of_entries(self):
        inner = (("x", ("record", (("y", ("true",)),))), ("z", ("number", 2)))
        fields = (("b", ("record", inner)), ("c", ("text", "t")))
        document = (("p", ("record", (("q", ("record", fields)),))), ("x", ("record", (("y", ("false",)),))))
        told = ("p", "q", "b")
        self.assertIs(holds(("has", entry()), document, entry=told), True)
        self.assertIs(holds(("=", entry("x", "y"), ("true",)), document, entry=told), True)
        self.assertIs(holds(("=", path("x", "y"), ("false",)), document, entry=told), True)
        self.assertIs(holds(("<", entry("z"), 3), document, entry=told), True)
        self.assertIs(holds((">", entry("z"), 2), document, entry=told), False)
        self.assertIs(holds(("has", entry("y")), document, entry=told), False)
        self.assertIs(holds(("=", entry(), ("text", "t")), document, entry=("p", "q", "c")), True)
        self.assertIs(holds(("has", entry("x")), document, entry=("p", "q", "c")), False)
        self.assertIs(holds(("has", entry("b", "z")), document, entry=("p", "q")), True)

    def test_absent_entries(self):
        for told in (("p", "x"), ("q", "x"), ("p", "b", "c"), ("p", "aa", "x")):
            for place in (entry(), entry("a"), entry("a", "b")):
                self.assertIs(holds(("has", place), DOCUMENT, entry=told), False)
                self.assertIs(holds(("=", place, ("number", 5)), DOCUMENT, entry=told), False)
                self.assertIs(holds(("<", place, 9), DOCUMENT, entry=told), False)
                self.assertIs(holds((">", place, -9), DOCUMENT, entry=told), False)
                self.assertIs(holds(("not", (">", place, -9)), DOCUMENT, entry=told), True)
            self.assertIs(holds(("and", ("has", path("p")), ("not", ("has", entry()))), DOCUMENT, entry=told), True)

    def test_a_path_is_passed_though_nothing_asks_for_it(self):
        self.assertIs(holds(("has", path("p")), DOCUMENT, entry=("p", "b")), True)
        self.assertIs(holds(("has", path("p")), DOCUMENT, entry=None), True)


def conditions(depth):
    """All conditions over three atoms of at most so many levels above them."""
    if depth == 0:
        return [A, B, C]
    below = conditions(depth - 1)
    found = [A, B, C] + [("not", one) for one in below]
    for word in ("and", "or"):
        found.extend([(word, one, other) for one in below for other in below])
    return found


def truth(condition, keys):
    """Whether the condition over atoms "has" of one key holds if these keys are there."""
    if condition[0] == "has":
        return condition[1][1][0] in keys
    if condition[0] == "not":
        return not truth(condition[1], keys)
    told = [truth(condition[1], keys), truth(condition[2], keys)]
    return all(told) if condition[0] == "and" else any(told)


class CompoundTest(unittest.TestCase):
    def test_all_small_conditions(self):
        for many in range(4):
            for keys in itertools.combinations("abc", many):
                document = tuple([(key, ("null",)) for key in keys])
                for condition in conditions(2):
                    told = holds(condition, document)
                    self.assertIs(told, truth(condition, keys), (condition, keys))

    def test_entries_reach_all_atoms(self):
        told = ("or", ("and", ("not", ("has", entry("x"))), (">", entry(), 4)), ("not", ("or", ("has", entry()), A)))
        self.assertIs(holds(told, DOCUMENT, entry=("p", "b")), True)
        self.assertIs(holds(told, DOCUMENT, entry=("p", "aa")), False)
        self.assertIs(holds(told, DOCUMENT, entry=("p", "c")), True)
        self.assertIs(holds(told, DOCUMENT + (("a", ("null",)),), entry=("p", "c")), False)


class AlternativesTest(unittest.TestCase):
    def test_example(self):
        self.assertEqual(alternatives(("not", ("and", A, ("not", B)))), (((A, False),), ((B, True),)))

    def test_atoms(self):
        for atom in (A, ("=", entry("x"), ("text", "t")), ("<", path("x"), -3), (">", entry(), 0)):
            self.assertEqual(alternatives(atom), (((atom, True),),))
            self.assertEqual(alternatives(("not", atom)), (((atom, False),),))
            self.assertEqual(alternatives(("not", ("not", atom))), (((atom, True),),))
            self.assertIs(alternatives(atom)[0][0][1], True)
            self.assertIs(alternatives(("not", atom))[0][0][1], False)

    def test_and_and_or_for_both_truths(self):
        self.assertEqual(alternatives(("and", A, B)), (((A, True), (B, True)),))
        self.assertEqual(alternatives(("or", A, B)), (((A, True),), ((B, True),)))
        self.assertEqual(alternatives(("not", ("and", A, B))), (((A, False),), ((B, False),)))
        self.assertEqual(alternatives(("not", ("or", A, B))), (((A, False), (B, False)),))
        self.assertEqual(alternatives(("and", B, A)), (((B, True), (A, True)),))
        self.assertEqual(alternatives(("or", B, A)), (((B, True),), ((A, True),)))

    def test_nested(self):
        self.assertEqual(alternatives(("and", ("or", A, B), ("or", C, D))), (
            ((A, True), (C, True)), ((A, True), (D, True)), ((B, True), (C, True)), ((B, True), (D, True)),
        ))
        self.assertEqual(alternatives(("not", ("or", ("and", A, B), ("and", C, D)))), (
            ((A, False), (C, False)), ((A, False), (D, False)), ((B, False), (C, False)), ((B, False), (D, False)),
        ))
        self.assertEqual(alternatives(("or", ("and", A, ("or", B, C)), ("not", D))), (
            ((A, True), (B, True)), ((A, True), (C, True)), ((D, False),),
        ))
        self.assertEqual(alternatives(("and", ("and", A, B), ("not", ("and", C, D)))), (
            ((A, True), (B, True), (C, False)), ((A, True), (B, True), (D, False)),
        ))
        self.assertEqual(alternatives(("not", ("and", ("or", A, B), ("not", C)))), (
            ((A, False), (B, False)), ((C, True),),
        ))

    def test_nothing_is_left_out(self):
        self.assertEqual(alternatives(("or", A, A)), (((A, True),), ((A, True),)))
        self.assertEqual(alternatives(("and", A, A)), (((A, True), (A, True)),))
        self.assertEqual(alternatives(("and", A, ("not", A))), (((A, True), (A, False)),))
        self.assertEqual(alternatives(("or", A, ("not", A))), (((A, True),), ((A, False),)))
        self.assertEqual(alternatives(("and", ("or", A, A), ("or", B, ("not", A)))), (
            ((A, True), (B, True)), ((A, True), (A, False)), ((A, True), (B, True)), ((A, True), (A, False)),
        ))

    def test_all_small_conditions_hold_exactly_if_an_alternative_does(self):
        for condition in conditions(2):
            told = alternatives(condition)
            self.assertIsInstance(told, tuple)
            for many in range(4):
                for keys in itertools.combinations("abc", many):
                    met = [all([truth(atom, keys) is wanted for atom, wanted in one]) for one in told]
                    self.assertIs(any(met), truth(condition, keys), (condition, keys))

    def test_all_small_conditions_have_so_many(self):
        def count(condition, wanted):
            if condition[0] == "has":
                return 1
            if condition[0] == "not":
                return count(condition[1], not wanted)
            one, other = count(condition[1], wanted), count(condition[2], wanted)
            return one * other if (condition[0], wanted) in (("and", True), ("or", False)) else one + other

        for condition in conditions(2):
            self.assertEqual(len(alternatives(condition)), count(condition, True), condition)
            self.assertEqual(len(alternatives(("not", condition))), count(condition, False), condition)


class BreachesTest(unittest.TestCase):
    def test_examples(self):
        self.assertEqual(breaches(read_claim("each p @ > 4"), DOCUMENT), (("p", "aa"),))
        self.assertEqual(breaches(read_claim("has q"), DOCUMENT), ((),))

    def test_without_a_collection(self):
        self.assertEqual(breaches(read_claim("has p"), DOCUMENT), ())
        self.assertEqual(breaches(read_claim("not has p"), DOCUMENT), ((),))
        self.assertEqual(breaches(read_claim("p.b = 5 and not p.b = 6"), DOCUMENT), ())
        self.assertEqual(breaches(read_claim("has p"), ()), ((),))

    def test_several_entries_ascending(self):
        fields = tuple([(key, ("number", at)) for at, key in enumerate(("b", "z", "a-", "aa", "bb"))])
        document = (("p", ("record", fields)), ("q", ("true",)))
        self.assertEqual(breaches(read_claim("each p @ = 1"), document), (
            ("p", "b"), ("p", "a-"), ("p", "aa"), ("p", "bb"),
        ))
        self.assertEqual(breaches(read_claim("each p @ < 9"), document), ())
        self.assertEqual(breaches(read_claim("each p has q and not @ = 4"), document), (("p", "bb"),))
        self.assertEqual(breaches(read_claim("each p not has q"), document), tuple([("p", key) for key, _ in fields]))

    def test_places_below_entries(self):
        fields = (("a", ("record", (("x", ("null",)),))), ("b", ("record", ())), ("c", ("number", 1)))
        document = (("p", ("record", (("q", ("record", fields)),))),)
        self.assertEqual(breaches(read_claim("each p.q has @.x"), document), (("p", "q", "b"), ("p", "q", "c")))
        self.assertEqual(breaches(read_claim("each p not has @.a.x"), document), (("p", "q"),))

    def test_no_entries(self):
        for document in ((), (("p", ("null",)),), (("p", ("record", ())),), (("q", ("record", (("a", ("null",)),))),)):
            for text in ("each p has @", "each p not has @", "each p @ = 1", "each p.q has @.x", "each p has x"):
                self.assertEqual(breaches(read_claim(text), document), (), (text, document))

    def test_breaches_are_the_entries_for_which_the_condition_does_not_hold(self):
        claim = read_claim("each p @ > 0 or has @.x")
        for first, second in itertools.product(VALUES, repeat=2):
            pairs = [pair for pair in (("b", first), ("aa", second)) if pair[1] is not None]
            document = (("p", ("record", tuple(pairs))),)
            held = dict(nodes(document))
            wanted = [
                told for told in entries(document, ("p",))
                if not (held[told][0] == "number" and held[told][1] > 0) and told + ("x",) not in held
            ]
            self.assertEqual(breaches(claim, document), tuple(wanted))


if __name__ == "__main__":
    unittest.main()

"""Points 120 to 124: unnamed entries, misfits, parts and joined documents."""

import itertools
import unittest

from hookcheck.documents import compare_documents, nodes, without
from hookcheck.errors import NotParts
from hookcheck.parts import joined, misfit, parts, unnamed_entries
from hookcheck.plans import call_unit
from hookcheck.scopes import scope_of

from tests.tools import Dice, crowded, doc, error_of, random_scope, rules_of


def scope(*texts):
    return scope_of(rules_of(*texts))


TEXT = scope("each parts default @.size 1", "when has parts.main.note then remove parts.main")
TWO = scope("each q default @.x 1", "each p.c set @ 1", "when has p.c.m or has q.a.y then reject no")


class UnnamedTest(unittest.TestCase):
    def check(self, one, told, *paths):
        self.assertEqual(unnamed_entries(one, doc(told)), tuple([tuple(path.split(".")) for path in paths]))

    def test_example(self):
        one = scope("each p default @.size 1", "when has p.m then set q true")
        self.check(one, {"p": {"b": {}, "m": {}, "aa": {}}}, "p.b", "p.aa")

    def test_none(self):
        for told in ({}, {"parts": 5}, {"parts": {}}, {"parts": {"main": {"x": {}}}}, {"x": {"parts": {"a": 1}}}):
            self.check(TEXT, told)
        self.assertEqual(unnamed_entries(scope_of(()), doc({"a": {"b": 1}})), ())

    def test_order(self):
        self.check(TEXT, {"parts": {"b": 1, "z": {"a": {}}, "main": {}, "a-": None, "aa": {}}},
                   "parts.b", "parts.z", "parts.a-", "parts.aa")

    def test_two_collections_in_the_order_of_the_scope(self):
        self.check(TWO, {"p": {"c": {"a": 1, "m": 2, "b": {}}}, "q": {"a": {}, "m": 1, "b": {"c": {}}}},
                   "q.b", "q.m", "p.c.a", "p.c.b")
        self.check(TWO, {"p": {"c": 7}, "q": {"x": None}}, "q.x")


class MisfitTest(unittest.TestCase):
    def check(self, one, *rows):
        for told, expected in rows:
            if expected is not None:
                kind, path = expected.split(" ")
                expected = (kind, tuple(path.split(".")))
            self.assertEqual(misfit(one, doc(told)), expected, told)

    def test_examples(self):
        one = scope("each p default @.size 1", "when has p.m then set q true")
        self.check(one, ({"p": {"x": 1}}, "record p.x"), ({"p": {"b": {}, "m": {}, "aa": {}}}, None))

    def test_documents_of_the_text(self):
        self.check(
            TEXT,
            ({}, None),
            ({"parts": {"main": {"note": {}}, "x": {"other": {"deep": 1}}}, "owner": {}}, None),
            ({"parts": 5}, "record parts"),
            ({"parts": {"main": True}}, "record parts.main"),
            ({"parts": {"x": 1, "main": {"size": {}}}}, "scalar parts.main.size"),
            ({"parts": {"x": {"size": {}}, "b": 1}}, "record parts.b"),
        )

    def test_each_kind(self):
        self.check(
            scope("when has a.b then remove a.b", "set c 1"),
            ({"a": {}}, None), ({"a": {"b": {}}}, None), ({"a": {"b": {"c": 1}}}, None), ({"a": {"b": 1}}, None),
            ({"a": None}, "record a"), ({"a": False}, "record a"), ({"a": ""}, "record a"),
            ({"c": {}}, "scalar c"), ({"c": {"d": {}}}, "scalar c"), ({"c": None}, None), ({"c": "x"}, None),
            ({"x": {"c": {}, "a": 1}}, None),
        )
        self.check(scope("remove a", "set a.b 1"), ({"a": {"a": {}, "b": 1, "c": {}}}, None), ({"a": {"a": 5}}, None))

    def test_kinds_inside_of_entries(self):
        self.check(
            scope("each p set @ 1"),
            ({"p": {"x": {}}}, "scalar p.x"), ({"p": {"x": 5, "y": {}}}, "scalar p.y"), ({"p": {"x": None}}, None),
        )
        self.check(
            scope("each p remove @.x.y", "each p remove @.z"),
            ({"p": {"k": {"x": 1}}}, "record p.k.x"), ({"p": {"k": {"x": {"y": {}}, "z": {}}}}, None),
            ({"p": {"k": 1}}, "record p.k"),
        )
        self.check(scope("each p reject no"), ({"p": {"x": {}, "y": 1}}, None), ({"p": {"x": {"y": {}}}}, None))

    def test_named_entries_are_slots_of_the_document(self):
        one = scope("each p set @.x 1", "when has p.m then reject no")
        self.check(one, ({"p": {"m": 1}}, "record p.m"), ({"p": {"m": {"x": {}}}}, "scalar p.m.x"),
                   ({"p": {"m": {"y": 1}}}, None))

    def test_first_of_several(self):
        self.check(
            scope("set b 1 and set a 1 and set aa.x 1"),
            ({"aa": 1, "b": {}, "a": {}}, "scalar a"), ({"aa": 1, "b": {}}, "scalar b"), ({"aa": 1}, "record aa"),
        )
        self.check(
            TWO,
            ({"q": 1, "p": 1}, "record p"),
            ({"q": {"k": 1}, "p": {"c": {"m": {}}}}, "scalar p.c.m"),
            ({"q": {"k": {}, "b": 5}, "p": {"c": {"a": {}}}}, "record q.b"),
            ({"q": {"k": {"x": {}}, "aa": 1}, "p": {"c": {"a": {}}}}, "scalar q.k.x"),
            ({"q": {"k": {}}, "p": {"c": {"a": 1, "bb": {}, "b": {}}}}, "scalar p.c.b"),
            ({"q": {"a": {"y": {}, "x": {}}, "b": 1}}, "scalar q.a.x"),
            ({"q": {"a": 1, "b": {"x": {}}}}, "record q.a"),
        )
        self.check(
            scope("each p set @.x 1 and set @.a.b 1"),
            ({"p": {"k": {"x": {}, "a": 1}}}, "record p.k.a"),
            ({"p": {"k": {"x": {}, "a": {"b": {}}}}}, "scalar p.k.a.b"),
            ({"p": {"k": {"x": {}}, "j": {"x": {}}}}, "scalar p.j.x"),
        )

    def test_a_document_fits_exactly_if_all_its_parts_fit(self):
        dice = Dice(121)
        seen = {True: 0, False: 0}
        for _ in range(300):
            _, one = random_scope(dice)
            document = crowded(dice, one)
            fits = misfit(one, document) is None
            seen[fits] += 1
            told = [misfit(one, part) for part in parts(one, document)]
            self.assertEqual(fits, not any(told))
            if not fits:
                self.assertIn(misfit(one, document), told)
        self.assertGreater(min(seen.values()), 50)


class PartsTest(unittest.TestCase):
    def check(self, one, told, *expected):
        self.assertEqual(parts(one, doc(told)), tuple([doc(part) for part in expected]))

    def test_examples(self):
        one = scope("each p default @.size 1", "when has p.m then set q true")
        self.check(
            one, {"p": {"b": {}, "m": {}, "aa": {}}},
            {"p": {"m": {}}}, {"p": {"b": {}, "m": {}}}, {"p": {"m": {}, "aa": {}}},
        )

    def test_no_entries(self):
        for told in ({}, {"parts": {}}, {"parts": 5}, {"parts": {"main": {"x": 1}}, "z": {"y": None}}):
            self.check(TEXT, told, told)
        self.assertEqual(parts(scope_of(()), doc({"a": {"b": 1}})), (doc({"a": {"b": 1}}),))

    def test_what_is_no_entry_is_in_every_part(self):
        self.check(
            TEXT, {"parts": {"x": {"size": 5, "k": {"l": {}}}, "main": {"note": 1}, "y": 3}, "owner": {"name": "a"}},
            {"parts": {"main": {"note": 1}}, "owner": {"name": "a"}},
            {"parts": {"x": {"size": 5, "k": {"l": {}}}, "main": {"note": 1}}, "owner": {"name": "a"}},
            {"parts": {"main": {"note": 1}, "y": 3}, "owner": {"name": "a"}},
        )

    def test_two_collections(self):
        self.check(
            TWO, {"p": {"c": {"a": 1, "m": 2}}, "q": {"m": {}, "b": {"c": {}}, "a": {}}},
            {"p": {"c": {"m": 2}}, "q": {"a": {}}},
            {"p": {"c": {"m": 2}}, "q": {"a": {}, "b": {"c": {}}}},
            {"p": {"c": {"m": 2}}, "q": {"a": {}, "m": {}}},
            {"p": {"c": {"a": 1, "m": 2}}, "q": {"a": {}}},
        )

    def test_equal_values_are_different_parts(self):
        self.check(TEXT, {"parts": {"x": 1, "y": 1}}, {"parts": {}}, {"parts": {"x": 1}}, {"parts": {"y": 1}})

    def test_many_entries(self):
        told = {f"k{at}": at for at in range(10, 60)}
        found = parts(TEXT, doc({"parts": told}))
        self.assertEqual(len(found), 51)
        for at, part in enumerate(found[1:]):
            self.assertEqual(part, doc({"parts": {f"k{at + 10}": at + 10}}))

    def test_random(self):
        dice = Dice(122)
        for _ in range(200):
            _, one = random_scope(dice)
            document = crowded(dice, one)
            unnamed = unnamed_entries(one, document)
            found = parts(one, document)
            self.assertEqual(len(found), len(unnamed) + 1)
            for kept, part in zip((None, *unnamed), found):
                self.assertLessEqual(compare_documents(part, document), 0)
                expected = [
                    node for node in nodes(document)
                    if not any(node[0][:len(entry)] == entry for entry in unnamed if entry != kept)
                ]
                self.assertEqual(list(nodes(part)), expected)
            self.assertEqual(joined(one, found), document)


class JoinedTest(unittest.TestCase):
    def check(self, told, *documents):
        self.assertEqual(joined(TEXT, tuple([doc(one) for one in documents])), doc(told))

    def refused(self, number, *documents, one=TEXT):
        with self.assertRaises(NotParts) as caught:
            joined(one, tuple([doc(told) for told in documents]))
        self.assertEqual(caught.exception.number, number)

    def test_one(self):
        for told in ({}, {"parts": {}}, {"parts": 1}, {"parts": {"x": {"size": {}}, "main": 1}}, {"z": {"y": 1}}):
            self.check(told, told)

    def test_several(self):
        self.check({"parts": {"x": {"k": 1}, "y": 2}}, {"parts": {"x": {"k": 1}}}, {"parts": {"y": 2}})
        self.check({"parts": {"x": 1, "y": 2}}, {"parts": {"y": 2}}, {"parts": {}}, {"parts": {"x": 1}}, {"parts": {}})
        self.check({"parts": {}, "z": 1}, {"parts": {}, "z": 1}, {"parts": {}, "z": 1})
        self.check({"parts": {"main": {}, "x": {}}}, {"parts": {"main": {}}}, {"parts": {"main": {}, "x": {}}})

    def test_in_two_collections(self):
        documents = [{"p": {"c": {"a": 1}}, "q": {}}, {"p": {"c": {}}, "q": {"a": {}, "b": 1}}]
        self.refused(1, *documents, one=TWO)
        documents[1]["q"] = {"b": 1}
        self.assertEqual(
            joined(TWO, tuple([doc(told) for told in documents])), doc({"p": {"c": {"a": 1}}, "q": {"b": 1}}),
        )

    def test_two_or_more_unnamed_entries(self):
        self.refused(0, {"parts": {"x": 1, "y": 1}})
        self.refused(1, {"parts": {"x": 1}}, {"parts": {"y": 1, "z": 1}})
        self.refused(2, {"parts": {}}, {"parts": {}}, {"parts": {"y": 1, "z": 1, "main": {}}})
        self.refused(0, {"parts": {"x": 1, "y": 1}}, {"parts": 5})
        self.refused(0, {"q": {"c": 1}, "p": {"c": {"a": 1}}}, one=TWO)

    def test_different_without_the_entries(self):
        self.refused(1, {}, {"parts": {}})
        self.refused(1, {"parts": {"x": 1}}, {})
        self.refused(1, {"parts": {"x": 1}, "z": 1}, {"parts": {"y": 1}, "z": True})
        self.refused(2, {"parts": {"x": 1}}, {"parts": {"y": 1}}, {"parts": {"main": {}}})
        self.refused(1, {"parts": {"main": {"a": 1}}}, {"parts": {"main": {"a": 2}}}, {"parts": {"x": 1, "y": 1}})
        self.refused(1, {"parts": {"main": {}}}, {"parts": {"main": {"a": {}}, "x": 1}})

    def test_the_same_unnamed_entry(self):
        self.refused(1, {"parts": {"x": 1}}, {"parts": {"x": 1}})
        self.refused(1, {"parts": {"x": 1}}, {"parts": {"x": 2}})
        self.refused(3, {"parts": {}}, {"parts": {"x": 1}}, {"parts": {"y": 1}}, {"parts": {"x": {}}}, {})
        self.refused(2, {"parts": {"x": 1}}, {"parts": {}}, {"parts": {"x": 1}})

    def test_twenty_and_more(self):
        documents = [{"parts": {f"k{at}": at}, "z": {}} for at in range(10, 40)]
        self.check({"parts": {f"k{at}": at for at in range(10, 40)}, "z": {}}, *documents)
        self.refused(29, *documents[:-1], documents[3])

    def test_all_pairs_of_small_documents(self):
        values = [None, {}, {"x": 1}, {"y": {}}, {"main": 1}, {"main": 1, "x": 1}, {"main": 1, "x": 1, "y": 1}, 5]
        documents = [doc({} if told is None else {"parts": told}) for told in values]
        for pair in itertools.product(documents, repeat=2):
            bare = []
            for document in pair:
                told = unnamed_entries(TEXT, document)
                for path in told:
                    document = without(document, path)
                bare.append((document, told))
            wrong = None
            if bare[1][0] != bare[0][0] or len(bare[1][1]) > 1 or set(bare[1][1]) & set(bare[0][1]):
                wrong = ("NotParts", 1)
            if len(bare[0][1]) > 1:
                wrong = ("NotParts", 0)
            self.assertEqual(error_of(joined, TEXT, pair), wrong, pair)
            if wrong is None:
                self.assertEqual(dict(nodes(joined(TEXT, pair))), {**dict(nodes(pair[0])), **dict(nodes(pair[1]))})


class CallsOfPartsTest(unittest.TestCase):
    """Point 123: what a call does to a document follows from what it does to its parts."""

    def test_random(self):
        dice = Dice(123)
        seen = {"done": 0, "rejected": 0}
        for _ in range(800):
            rules, one = random_scope(dice)
            hooks = tuple([(f"h{at}", (rule,)) for at, rule in enumerate(rules)])
            unit = tuple([dice.one(hooks)[0] for _ in range(3)])
            document = crowded(dice, one)
            if misfit(one, document) is None:
                told = call_unit(hooks, unit, document)
                seen[told[0]] += 1
                self.check(one, told, [call_unit(hooks, unit, part) for part in parts(one, document)])
        self.assertGreater(min(seen.values()), 15)

    def check(self, one, told, of_parts):
        places = [other[1] for other in of_parts if other[0] == "rejected"]
        if told[0] == "rejected" or places:
            self.assertEqual(told, ("rejected", min(places)))
            return
        self.assertEqual(told[2], any([other[2] for other in of_parts]))
        self.assertIsNone(misfit(one, told[1]))
        self.assertEqual(parts(one, told[1])[0], of_parts[0][1])
        self.assertEqual(joined(one, tuple([other[1] for other in of_parts])), told[1])


if __name__ == "__main__":
    unittest.main()

"""Points 130 to 135: samples, the samples of documents, and documents with given samples."""

import inspect
import itertools
import string
import unittest

from hookcheck.documents import compare_documents, nodes
from hookcheck.errors import Misfit, NotSamples
from hookcheck.parts import misfit, parts
from hookcheck.plans import call_unit
from hookcheck.samples import each_sample, first_with, is_sample, samples_of
from hookcheck.scopes import count_samples, scope_of

from tests import scope_model
from tests.tools import VALUES, Dice, crowded, doc, error_of, first_of, nodes_dict, random_scope, rules_of, value

PARTS = ("each parts default @.size 1", "when has parts.main.note then remove parts.main")


def scope(*texts):
    return scope_of(rules_of(*texts))


def docs(*told):
    return tuple([doc(one) for one in told])


def shown(one, told, apart=None):
    """The samples of the document."""
    if apart is None:
        return samples_of(one, doc(told))
    return samples_of(one, doc(told), apart=tuple([value(scalar) for scalar in apart]))


class EachSampleTest(unittest.TestCase):
    def check(self, one, *expected):
        self.assertEqual(tuple(each_sample(one)), docs(*expected))

    def test_a_generator(self):
        self.assertTrue(inspect.isgeneratorfunction(each_sample))
        self.assertEqual(next(each_sample(scope("remove a"))), ())

    def test_example_of_the_text(self):
        self.check(
            scope('each parts when @.size > 5 then set @.class "big"'),
            {}, {"parts": {}}, {"parts": {"a": {}}}, {"parts": {"a": {"size": None}}}, {"parts": {"a": {"size": 6}}},
            {"parts": {"a": {"class": None}}}, {"parts": {"a": {"class": "big"}}},
            {"parts": {"a": {"size": None, "class": None}}}, {"parts": {"a": {"size": None, "class": "big"}}},
            {"parts": {"a": {"size": 6, "class": None}}}, {"parts": {"a": {"size": 6, "class": "big"}}},
        )

    def test_no_rules(self):
        self.check(scope_of(()), {})
        self.check(scope("reject no"), {})

    def test_each_kind(self):
        self.check(scope("remove a"), {}, {"a": None})
        self.check(scope("set a 1"), {}, {"a": None}, {"a": 1})
        self.check(scope("when has a.b then reject no"), {}, {"a": {}}, {"a": {"b": None}})
        self.check(
            scope("when has a.b then remove a"),
            {}, {"a": {}}, {"a": {"a": None}}, {"a": {"b": None}}, {"a": {"a": None, "b": None}},
        )

    def test_each_kind_of_entries(self):
        self.check(scope("each p reject no"), {}, {"p": {}}, {"p": {"a": None}})
        self.check(scope("each p set @ 1"), {}, {"p": {}}, {"p": {"a": None}}, {"p": {"a": 1}})
        self.check(scope("each p set @ 1", "remove p.a"), {}, {"p": {}}, {"p": {"a": None}}, {"p": {"a": 1}}, {
            "p": {"b": None}}, {"p": {"b": 1}}, {"p": {"a": None, "b": None}}, {"p": {"a": None, "b": 1}},
            {"p": {"a": 1, "b": None}}, {"p": {"a": 1, "b": 1}})
        self.check(
            scope("each p remove @", "each p remove @.a"),
            {}, {"p": {}}, {"p": {"a": {}}}, {"p": {"a": {"a": None}}}, {"p": {"a": {"b": None}}},
            {"p": {"a": {"a": None, "b": None}}},
        )

    def test_one_unnamed_entry_at_most(self):
        self.check(
            scope("each p reject no", "each q reject no"),
            {}, {"p": {}}, {"q": {}}, {"p": {"a": None}}, {"p": {}, "q": {}}, {"q": {"a": None}},
            {"p": {"a": None}, "q": {}}, {"p": {}, "q": {"a": None}},
        )

    def test_all_against_a_direct_enumeration(self):
        dice = Dice(130)
        for _ in range(250):
            rules, one = random_scope(dice)
            found = list(each_sample(one))
            self.assertEqual(len(found), count_samples(one))
            for first, second in zip(found, found[1:]):
                self.assertEqual(compare_documents(first, second), -1, rules)
            if len(one[1]) + sum([len(slots) for slots in one[2]]) < 9:
                self.assertEqual(set(found), set(scope_model.samples_by_words(one)), rules)

    def test_two_hundred(self):
        one = scope("set a 1 and set a 2 and set a 3", "set b 1 and set b 2 and set b 3",
                    "set c 1 and set c 2 and set c 3 and set c 4 and set c 5 and set c 6")
        self.assertEqual(len(list(each_sample(one))), 200)


class IsSampleTest(unittest.TestCase):
    def check(self, one, expected, *told):
        for document in told:
            self.assertIs(is_sample(one, doc(document)), expected, document)

    def test_example(self):
        self.check(scope("when has a.b then remove a"), False, {"a": {"c": None}})

    def test_each_kind(self):
        one = scope("when has a.b then remove a", "set c 1")
        self.check(one, True, {}, {"a": {}}, {"a": {"a": None, "b": None}, "c": None}, {"c": 1})
        self.check(one, False, {"a": None}, {"a": {"b": 1}}, {"a": {"a": 1}}, {"a": {"b": {}}}, {"a": {"a": {}}},
                   {"c": 2}, {"c": True}, {"c": {}}, {"d": None}, {"a": {"b": None, "c": None}}, {"c": {"x": None}},
                   {"b": {}})

    def test_entries(self):
        one = scope(*PARTS)
        self.check(one, True, {"parts": {"a": {}}}, {"parts": {"a": {"size": 1}, "main": {"a": None}}})
        self.check(one, False, {"parts": {"b": {}}}, {"parts": {"a": {}, "b": {}}}, {"parts": {"a": 1}}, {"parts": 1},
                   {"parts": {"a": {"size": 2}}}, {"parts": {"a": {"note": None}}}, {"parts": {"a": {"a": None}}},
                   {"parts": {"a": None}}, {"parts": {"a": {}, "aa": {}}}, {"parts": {"aa": {}}}, {"a": {}},
                   {"parts": {"a": {"size": {}}}})

    def test_entries_of_two_collections(self):
        one = scope("each p set @ 1", "each q remove @", "when has q.a then reject no")
        self.check(one, True, {"p": {"a": 1}, "q": {"a": None}}, {"p": {}, "q": {"a": None, "b": None}})
        self.check(one, False, {"p": {"a": 1}, "q": {"b": None}}, {"p": {"b": None}}, {"q": {"c": None}},
                   {"p": {"a": None, "b": None}}, {"q": {"b": 1}})

    def test_of_all_small_documents_the_samples_alone(self):
        dice = Dice(131)
        for _ in range(100):
            _, one = random_scope(dice)
            found = list(each_sample(one))
            for sample in found:
                self.assertIs(is_sample(one, sample), True)
            for _ in range(15):
                near = dict(nodes(dice.one(found)))
                path = dice.one(list(near) + [()]) + (dice.one("abpx"),)
                if near.get(path[:-1], ("record",)) == ("record",):
                    near[path] = dice.one([("null",), ("number", 0), ("true",), ("record",)])
                    document = scope_model.document_of(tuple(
                        (other, near[other]) for other in near if near[path] == ("record",) or other[:len(path)] != path
                        or other == path
                    ))
                    self.assertIs(is_sample(one, document), document in found)


class SamplesOfTest(unittest.TestCase):
    def test_examples(self):
        one = scope("when has a.b then remove a")
        self.assertEqual(shown(one, {"a": {"b": {}, "x": 2, "y": 3}}), docs({"a": {"a": None, "b": None}}))
        ties = scope("default a from b")
        self.assertEqual(shown(ties, {"a": 4, "b": 9}), docs({"a": None, "b": None}))
        self.assertEqual(shown(ties, {"a": 4, "b": 9}, (9, 4)), docs({"a": None, "b": False}))

    def test_each_kind(self):
        one = scope("when has a.b then remove a", "when c > 5 then set c 1", "when has d then reject no")
        for told, expected in (
            ({}, {}), ({"x": 1}, {}), ({"a": {}}, {"a": {}}), ({"a": {"b": {"c": 1}}}, {"a": {"b": None}}),
            ({"a": {"c": 5}}, {"a": {"a": None}}), ({"a": {"a": {}, "b": 7}}, {"a": {"a": None, "b": None}}),
            ({"a": {"a": 1}}, {"a": {"a": None}}), ({"a": {"zz": None}}, {"a": {"a": None}}),
            ({"c": 1}, {"c": 1}), ({"c": 0}, {"c": None}), ({"c": 6}, {"c": 6}), ({"c": 10 ** 9}, {"c": 6}),
            ({"c": "6"}, {"c": None}), ({"c": True}, {"c": None}), ({"c": 5}, {"c": None}), ({"d": 1}, {"d": None}),
            ({"d": {"c": {}}}, {"d": None}), ({"d": None}, {"d": None}),
        ):
            self.assertEqual(shown(one, told), docs(expected), told)

    def test_a_rest_where_a_collection_stands_beside(self):
        one = scope("each a.p set @ 1", "remove a")
        self.assertEqual(shown(one, {"a": {"p": {}}}), docs({"a": {"p": {}}}))
        self.assertEqual(shown(one, {"a": {"p": {"x": 1}}}), docs({"a": {"p": {}}}, {"a": {"p": {"a": 1}}}))
        self.assertEqual(shown(one, {"a": {"q": {}}}), docs({"a": {"a": None}}))

    def test_rest_is_not_told_by_fields_further_below(self):
        one = scope("remove a", "set a.x.y 1")
        self.assertEqual(shown(one, {"a": {"x": {"z": 1}}}), docs({"a": {"x": {"a": None}}}))
        self.assertEqual(shown(one, {"a": {"x": {"y": 1}}}), docs({"a": {"x": {"y": 1}}}))
        self.assertEqual(shown(one, {"a": {"x": {}, "z": 1}}), docs({"a": {"a": None, "x": {}}}))

    def test_unnamed_entries(self):
        one = scope(*PARTS)
        self.assertEqual(
            shown(one, {"parts": {"x": {"size": 7, "k": 1}, "main": {"note": {}, "z": 1}, "b": {}}, "owner": 1}), docs(
                {"parts": {"main": {"note": None, "a": None}}},
                {"parts": {"a": {}, "main": {"note": None, "a": None}}},
                {"parts": {"a": {"size": None}, "main": {"note": None, "a": None}}},
            ),
        )

    def test_rest_inside_of_unnamed_entries(self):
        one = scope("each p remove @", "each p when @.a = 1 then remove @.b")
        self.assertEqual(shown(one, {"p": {"k": {"a": 2, "c": 1}, "l": {"a": 1, "b": {}}, "m": {"z": {}}}}), docs(
            {"p": {}}, {"p": {"a": {"a": None, "c": None}}}, {"p": {"a": {"a": 1, "b": None}}},
            {"p": {"a": {"c": None}}},
        ))

    def test_equal_samples_are_not_left_out(self):
        one = scope("each p set @ 1")
        self.assertEqual(shown(one, {"p": {"x": 3, "y": 1, "z": None}}), docs(
            {"p": {}}, {"p": {"a": None}}, {"p": {"a": 1}}, {"p": {"a": None}},
        ))

    def test_entries_without_slots_inside(self):
        one = scope("each p reject no")
        self.assertEqual(shown(one, {"p": {"x": {"y": 1}, "z": 4}}), docs(
            {"p": {}}, {"p": {"a": None}}, {"p": {"a": None}},
        ))

    def test_a_free_key_other_than_a(self):
        one = scope("each p set @ 1", "remove p.a and remove p.b")
        self.assertEqual(shown(one, {"p": {"a": 1, "c": 1, "x": 2}}), docs(
            {"p": {"a": 1}}, {"p": {"a": 1, "c": 1}}, {"p": {"a": 1, "c": None}},
        ))

    def test_apart(self):
        one = scope("default a from b", "when c > 5 then remove c")
        for apart, expected in (
            ((4, 9), {"a": None, "b": False, "c": 6}), ((9, 4), {"a": None, "b": False, "c": 6}),
            ((4, -9), {"a": None, "b": None, "c": 6}), ((4, -4), {"a": None, "b": None, "c": 6}),
            ((None, 4), {"a": False, "b": None, "c": 6}), ((4, "4"), {"a": None, "b": None, "c": 6}),
            ((9, "x"), {"a": None, "b": None, "c": 6}), ((7, 8), {"a": None, "b": None, "c": 6}),
        ):
            self.assertEqual(shown(one, {"a": 4, "b": 9, "c": 8}, apart), docs(expected), apart)

    def test_apart_by_scalars_that_are_not_alike(self):
        one = scope("default a from b", "when b > 5 then set b 9")
        for apart, expected in (
            ((6, 7), {"a": 6, "b": 7}), ((7, 6), {"a": 6, "b": 7}), ((5, 7), {"a": 6, "b": 6}),
            ((7, 9), {"a": 6, "b": 6}), ((7, 8), {"a": 6, "b": 6}), ((None, 7), {"a": 6, "b": 6}),
            ((10, 7), {"a": 6, "b": 6}),
        ):
            self.assertEqual(shown(one, {"a": 6, "b": 7}, apart), docs(expected), apart)
        self.assertEqual(shown(one, {"a": 9, "b": 4}, (4, 9)), docs({"a": 9, "b": None}))
        self.assertEqual(shown(one, {"a": 9, "b": 9}, (10, 9)), docs({"a": 9, "b": 9}))
        self.assertEqual(shown(one, {"a": 4, "b": "x"}, ("x", 4)), docs({"a": None, "b": False}))
        self.assertEqual(shown(one, {"a": True, "b": False}, (True, False)), docs({"a": False, "b": None}))

    def test_apart_in_entries(self):
        one = scope("each p default @.x from y")
        told = {"p": {"k": {"x": 3}, "l": {"x": 4}}, "y": 4}
        self.assertEqual(shown(one, told, (4, 3)), docs(
            {"p": {}, "y": False}, {"p": {"a": {"x": None}}, "y": False}, {"p": {"a": {"x": False}}, "y": False},
        ))
        self.assertEqual(shown(one, told, (4, 5)), shown(one, told))

    def test_misfit(self):
        one = scope(*PARTS)
        for told, kind, path in (
            ({"parts": 5}, "record", ("parts",)), ({"parts": {"main": True}}, "record", ("parts", "main")),
            ({"parts": {"x": 1, "main": {"size": {}}}}, "scalar", ("parts", "main", "size")),
            ({"parts": {"x": {"size": {}}, "b": 1}}, "record", ("parts", "b")),
        ):
            for apart in (None, (1, 2)):
                with self.assertRaises(Misfit) as caught:
                    shown(one, told, apart)
                self.assertEqual((caught.exception.kind, caught.exception.path), (kind, path))

    def test_apart_is_passed_by_its_name(self):
        self.assertEqual(str(inspect.signature(samples_of)), "(scope, document, *, apart=None)")

    def test_documents_with_as_many_nodes_as_may_be_passed(self):
        one = scope("each p set @.x 1")
        told = {"p": {f"k{at}": {"x": at} for at in range(1, 20)}}
        self.assertEqual(len(nodes_dict(doc(told))), 39)
        found = shown(one, told)
        self.assertEqual(found[:3], docs({"p": {}}, {"p": {"a": {"x": 1}}}, {"p": {"a": {"x": None}}}))
        self.assertEqual(len(found), 20)


class SampleTest(unittest.TestCase):
    """Points 131 to 134, on random rules and documents."""

    def test_by_the_words(self):
        dice = Dice(132)
        many = 0
        for _ in range(300):
            rules, one = random_scope(dice)
            apart = tuple([value(told) for told in dice.dice.sample(VALUES, 2)])
            for _ in range(4):
                document = crowded(dice, one)
                if misfit(one, document) is None:
                    many += 1
                    self.check(one, document, apart)
                else:
                    self.assertEqual(error_of(samples_of, one, document), ("Misfit", *misfit(one, document)))
        self.assertGreater(many, 300)

    def check(self, one, document, apart):
        told = parts(one, document)
        self.assertEqual(
            samples_of(one, document), tuple([scope_model.sample_of_part(one, part) for part in told]),
        )
        found = samples_of(one, document, apart=apart)
        self.assertEqual(found, tuple([scope_model.sample_of_part(one, part, apart) for part in told]))
        self.assertEqual(found, samples_of(one, document, apart=apart[::-1]))
        for part, sample in zip(told, found):
            self.assertTrue(is_sample(one, sample))
            self.assertLessEqual(compare_documents(sample, part), 0)

    def test_samples_of_samples(self):
        dice = Dice(133)
        for _ in range(60):
            _, one = random_scope(dice)
            for sample in each_sample(one):
                last = samples_of(one, sample)[-1]
                self.assertEqual(samples_of(one, last)[-1], last)
                second = any(
                    slot[1] == "scalar" and slot[2] is not None for slots in (one[1], *one[2]) for slot in slots
                )
                if not second:
                    self.assertEqual(last, sample)

    def test_a_sample_with_second_scalars_is_not_its_own(self):
        one = scope("default a from b")
        for told, expected in (({"a": False}, {"a": None}), ({"a": None, "b": False}, {"a": None, "b": None})):
            self.assertTrue(is_sample(one, doc(told)))
            self.assertEqual(shown(one, told), docs(expected))

    def test_samples_decide_what_calls_do(self):
        dice = Dice(134)
        seen = {"done": 0, "rejected": 0, "effects": 0}
        for _ in range(900):
            rules, one = random_scope(dice)
            hooks = tuple([(f"h{at}", (rule,)) for at, rule in enumerate(rules)])
            apart = dice.one((None, tuple([value(told) for told in dice.dice.sample(VALUES, 2)])))
            document = crowded(dice, one)
            if misfit(one, document) is not None:
                continue
            stand_ins = set(samples_of(one, document, apart=apart))
            for _ in range(3):
                unit = tuple([dice.one(hooks)[0] for _ in range(2)])
                told = call_unit(hooks, unit, document)
                of_samples = [call_unit(hooks, unit, sample) for sample in stand_ins]
                seen[told[0]] += 1
                self.assertEqual(told[0] == "rejected", any([other[0] == "rejected" for other in of_samples]))
                if told[0] == "rejected":
                    break
                seen["effects"] += told[2]
                self.assertEqual(told[2], any([other[2] for other in of_samples]))
                document = told[1]
                stand_ins = {other[1] for other in of_samples}
                self.assertEqual(stand_ins, set(samples_of(one, document, apart=apart)))
        self.assertGreater(min(seen.values()), 20)


class FirstWithTest(unittest.TestCase):
    def check(self, one, told, *expected):
        self.assertEqual(first_with(one, docs(*told)), doc(*expected))

    def refused(self, one, number, *told):
        with self.assertRaises(NotSamples) as caught:
            first_with(one, docs(*told))
        self.assertEqual(caught.exception.number, number, told)

    def test_examples(self):
        one = scope("each p default @ 1")
        self.check(one, ({"p": {}}, {"p": {"a": None}}, {"p": {"a": 1}}), {"p": {"a": None, "b": 1}})
        self.refused(one, 0, {"p": {"a": None}})

    def test_one_document(self):
        one = scope(*PARTS)
        for told in ({}, {"parts": {}}, {"parts": {"main": {"a": None, "size": 1}}}):
            self.check(one, (told,), told)
        self.check(scope_of(()), ({},), {})

    def test_several_in_their_order(self):
        one = scope("each p set @.x 1")
        three = [{"p": {"a": {"x": 1}}}, {"p": {"a": {}}}, {"p": {"a": {"x": None}}}]
        for told in itertools.permutations(three):
            entries = dict(zip("abc", [document["p"]["a"] for document in told]))
            self.check(one, ({"p": {}}, *told), {"p": entries})
        self.check(one, ({"p": {}}, three[0], three[0]), {"p": {"a": {"x": 1}, "b": {"x": 1}}})

    def test_named_keys_between(self):
        one = scope("each p set @ 1", "remove p.b and remove p.d")
        base = {"p": {"b": None, "d": 1}}
        entry = {"p": {"a": 1, **base["p"]}}
        self.check(one, (base, entry, entry, entry), {"p": {"a": 1, "c": 1, "e": 1, **base["p"]}})
        one = scope("each p set @ 1", "remove p.a and remove p.c")
        self.check(one, ({"p": {}}, {"p": {"b": 1}}, {"p": {"b": None}}), {"p": {"b": 1, "d": None}})

    def test_two_collections(self):
        one = scope("each q set @ 1", "each p.c reject no", "when has p.c.a then reject no")
        base = {"p": {"c": {"a": None}}, "q": {}}
        of_q = {**base, "q": {"a": 1}}
        of_p = {**base, "p": {"c": {"a": None, "b": None}}}
        self.check(one, (base, of_q, of_q, of_p, of_p), {
            "p": {"c": {"a": None, "b": None, "c": None}}, "q": {"a": 1, "b": 1},
        })
        self.check(one, (base, of_p), of_p)
        self.refused(one, 2, base, of_p, of_q)
        self.refused(one, 3, base, of_q, of_p, of_q)

    def test_keys_of_two_characters(self):
        one = scope("each p set @ 1", "remove p.c and remove p.a0")
        signs = "-" + string.digits + string.ascii_uppercase + string.ascii_lowercase
        keys = list(string.ascii_lowercase) + ["a" + sign for sign in signs] + ["b-", "b0"]
        keys = [key for key in keys if key not in ("c", "a0")]
        entry = {"p": {"a": 1}}
        for many in (1, 2, 3, 25, 26, 27, 37, 38, 63, 64, 87, 88, 89):
            self.check(one, ({"p": {}}, *[entry] * many), {"p": {key: 1 for key in keys[:many]}})

    def test_keys_of_three_characters(self):
        one = scope("each p set @ 1")
        found = first_with(one, docs({"p": {}}, *[{"p": {"a": 1}}] * (26 + 26 * 63 + 2)))
        keys = [key for key, _ in found[0][1][1]]
        self.assertEqual(keys[-4:], ["zy", "zz", "a--", "a-0"])
        self.assertEqual(keys[26 + 63:26 + 65], ["b-", "b0"])

    def test_what_is_met_is_given_back(self):
        dice = Dice(135)
        seen = 0
        for _ in range(600):
            _, one = random_scope(dice)
            document = crowded(dice, one)
            if misfit(one, document) is None:
                told = samples_of(one, document)
                first = first_with(one, told)
                self.assertEqual(samples_of(one, first), told)
                self.assertLessEqual(compare_documents(first, document), 0)
                seen += len(told) > 2
        self.assertGreater(seen, 15)

    def test_the_first_of_all_documents(self):
        one = scope("each p set @ 1", "each q remove @", "when has p.a then reject no")
        found = {}
        for keys in itertools.product((None, "true", "none", "one"), repeat=5):
            told = {"p": {}, "q": {}}
            for key, word in zip(("pa", "pb", "pc", "qa", "qb"), keys):
                if word is not None:
                    told[key[0]][key[1]] = {"true": True, "none": None, "one": 1}[word]
            document = doc(told)
            found.setdefault(samples_of(one, document), []).append(document)
        for told, documents in found.items():
            self.assertEqual(first_with(one, told), first_of(documents))

    def test_the_first_document(self):
        one = scope("each p set @ 1", "when has p.m then set x 1")
        self.refused(one, 0, {"p": {"a": 1}})
        self.refused(one, 0, {"x": 2})
        self.refused(one, 0, {"p": {"b": 1}})
        self.refused(one, 0, {"p": 4})
        self.refused(one, 0, {"y": 1}, {"p": {"a": 1}})
        self.refused(scope("default a from b"), 0, {"a": False})

    def test_later_documents(self):
        one = scope("each p default @.x from z", "when has p.m then reject no")
        base, entry = {"p": {}}, {"p": {"a": {"x": None}}}
        self.check(one, (base, entry), entry)
        for wrong in (base, {"p": {"a": {"x": False}}}, {"p": {"a": {"x": 1}}}, {"p": {"b": {}}}, {"p": {"a": 1}},
                      {"p": {"a": {}}, "z": 1}, {"p": {"a": {}}, "z": None}, {"p": {"a": {}, "m": {}}},
                      {"p": {"a": {}, "b": {}}}, {}, {"p": 1},
                      {"p": {"a": {"w": None}}}, {"p": {"a": {}}, "y": None}):
            self.refused(one, 1, base, wrong)
            self.refused(one, 3, base, entry, entry, wrong)
            self.refused(one, 2, base, entry, wrong, entry)

    def test_the_first_of_several(self):
        one = scope("each p set @ 1")
        self.refused(one, 1, {"p": {}}, {"p": {"a": 2}}, {"p": {"a": 3}})
        self.refused(one, 0, {"p": {"a": 1}}, {"p": {"a": 2}})

    def test_random_tuples_of_samples(self):
        one = scope("each p default @ from x", "each q reject no", "remove q.a")
        samples = list(each_sample(one))
        dice = Dice(136)
        seen = {"met": 0, "not": 0}
        bases = [sample for sample in samples if not unnamed(sample)]
        for _ in range(1500):
            base = dice.one(bases)
            near = [sample for sample in samples if unnamed(sample) and without_unnamed(sample) == base] or samples
            told = [base] + [dice.one(near) for _ in range(dice.dice.randint(0, 3))]
            if dice.chance(0.2):
                told[dice.dice.randrange(len(told))] = dice.one(samples)
            expected = first_wrong(one, told)
            seen["met" if expected is None else "not"] += 1
            self.assertEqual(
                error_of(first_with, one, tuple(told)), None if expected is None else ("NotSamples", expected),
            )
            if expected is None:
                self.assertEqual(samples_of(one, first_with(one, tuple(told))), tuple(told))
        self.assertGreater(min(seen.values()), 200)


def unnamed(sample):
    """The unnamed entry of a sample of the scope of the last test, a list with one path or none."""
    return [path for path in nodes_dict(sample) if len(path) == 2 and path != ("q", "a")]


def without_unnamed(sample):
    kept = [pair for pair in nodes(sample) if pair[0] not in unnamed(sample)]
    return scope_model.document_of(tuple(kept))


def first_wrong(one, told):
    """The number of the first document for which the condition of point 135 does not hold, or None."""
    for number, sample in enumerate(told):
        entry = unnamed(sample)
        if scope_model.sample_of_part(one, sample) != sample or (number == 0) == bool(entry):
            return number
        if number > 0 and without_unnamed(sample) != told[0]:
            return number
        if number > 1 and entry[0][0] < unnamed(told[number - 1])[0][0]:
            return number
    return None


if __name__ == "__main__":
    unittest.main()

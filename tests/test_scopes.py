"""Points 100 to 112: scopes, their slots and how many samples they have."""

import unittest

from hookcheck.conditions import alternatives
from hookcheck.errors import ScopeError
from hookcheck.scopes import count_samples, scope_of

from tests.scope_model import Words, count_by_words
from tests.tools import Dice, error_of, rules_of, value

NOTHING = ((), (), ())


def scope(*texts):
    return scope_of(rules_of(*texts))


def told(slots):
    """Slots as {path: kind}, in their order."""
    return [(".".join(slot[0]), slot[1]) for slot in slots]


def kinds(*texts):
    """The slots of the document with their kinds."""
    return told(scope(*texts)[1])


def inner_kinds(*texts):
    """The slots inside of the unnamed entries with their kinds, for each collection."""
    return [told(slots) for slots in scope(*texts)[2]]


def groups(*texts):
    """The groups of all slots, as they are ordered."""
    found = scope(*texts)
    return [slot[2] for slots in (found[1], *found[2]) for slot in slots]


def refusal(*texts):
    return error_of(scope_of, rules_of(*texts))


class CollectionsTest(unittest.TestCase):
    def collections(self, *texts):
        return scope(*texts)[0]

    def test_none(self):
        self.assertEqual(scope_of(()), NOTHING)
        self.assertEqual(self.collections("set x 1", "reject no"), ())

    def test_order_of_the_first_rules(self):
        one, two = "each z remove @", "each a.b reject no"
        expected = ((("z",), (), "a"), (("a", "b"), (), "a"))
        self.assertEqual(self.collections(one, two), expected)
        self.assertEqual(self.collections(two, one), expected[::-1])
        self.assertEqual(self.collections("set x 1", two, one, two, one), expected[::-1])

    def test_named_keys(self):
        each = "each spec.parts reject no"
        for text in ("remove spec.parts.main", "when has spec.parts.main then reject no",
                     "when has spec.parts.main.size then reject no", "default spec.parts.main.size 1",
                     "default x from spec.parts.main", "each spec.parts when spec.parts.main = 1 then reject no",
                     "each spec.parts default @.x from spec.parts.main.y", "when spec.parts.main < 5 then remove x",
                     "when not ( has x or not has spec.parts.main ) then remove x"):
            self.assertEqual(self.collections(each, text)[0], (("spec", "parts"), ("main",), "a"), text)
        for text in ("remove spec.parts", "when has spec then reject no", "when has parts.main then reject no",
                     "default spec.part.main 1", "each spec.parts remove @.main", "remove spec.partsx.main"):
            self.assertEqual(self.collections(each, text)[0], (("spec", "parts"), (), "a"), text)

    def test_named_keys_ascend_each_once(self):
        found = self.collections("each p reject no", "remove p.b and remove p.aa and remove p.z and remove p.b")
        self.assertEqual(found, ((("p",), ("b", "z", "aa"), "a"),))

    def test_an_earlier_rule_names_too(self):
        self.assertEqual(self.collections("remove p.x", "each p reject no"), ((("p",), ("x",), "a"),))

    def test_one_name_for_two_collections(self):
        found = self.collections("each p.a reject no", "each q.a reject no", "remove p.a.a and remove q.a.b")
        self.assertEqual(found, ((("p", "a"), ("a",), "b"), (("q", "a"), ("b",), "a")))

    def test_free_key(self):
        each = "each p reject no"
        self.assertEqual(self.collections(each, "remove p.a and remove p.b")[0], (("p",), ("a", "b"), "c"))
        self.assertEqual(self.collections(each, "remove p.b and remove p.c")[0], (("p",), ("b", "c"), "a"))
        self.assertEqual(self.collections(each, "remove p.a and remove p.aa and remove p.c")[0][2], "b")
        self.assertEqual(self.collections(each, "remove p.a and remove p.b and remove p.c and remove p.d")[0][2], "e")

    def test_claims_as_rules(self):
        claim = (("p",), ("has", ("path", ("p", "a"))), ())
        self.assertEqual(scope_of((claim,))[0], ((("p",), ("a",), "b"),))


class SlotsTest(unittest.TestCase):
    def test_example_of_the_text(self):
        texts = ("each parts default @.size 1", "when has parts.main.note then remove parts.main")
        self.assertEqual(scope(*texts)[0], ((("parts",), ("main",), "a"),))
        self.assertEqual(kinds(*texts), [
            ("parts", "record"), ("parts.main", "record"), ("parts.main.a", "rest"), ("parts.main.note", "any"),
            ("parts.main.size", "scalar"),
        ])
        self.assertEqual(inner_kinds(*texts), [[("", "record"), ("size", "scalar")]])
        self.assertEqual(count_samples(scope(*texts)), 53)

    def test_each_word_that_makes_a_slot(self):
        any_words = ("when has a.b then reject no", "remove a.b", "when not has a.b then reject no")
        for text in any_words:
            self.assertIn(("a.b", "any"), kinds(text))
        for text in ("when a.b = 1 then reject no", "when a.b < 1 then reject no", "when a.b > 1 then reject no",
                     "set a.b 1", "default a.b 1", "default a.b from c", "default c from a.b",
                     "when has c or not a.b = 1 then reject no"):
            self.assertEqual(kinds(text)[:2], [("a", "record"), ("a.b", "scalar")])
            for other in any_words:
                self.assertIn(("a.b", "scalar"), kinds(text, other))
        self.assertEqual(kinds("reject no"), [])

    def test_each_word_inside_of_unnamed_entries(self):
        for text in ("each p when has @.b then reject no", "each p remove @.b"):
            self.assertEqual(inner_kinds(text), [[("", "record"), ("b", "any")]])
            self.assertEqual(kinds(text), [("p", "record")])
        for text in ("each p when @.b = 1 then reject no", "each p when @.b < 1 then reject no",
                     "each p when @.b > 1 then reject no", "each p set @.b 1", "each p default @.b 1",
                     "each p default @.b from c", "each p default @.c.d from @.b"):
            self.assertIn(("b", "scalar"), inner_kinds(text)[0])
        for text in ("each p when has @ then reject no", "each p remove @", "each p reject no"):
            self.assertEqual(inner_kinds(text), [[("", "any")]])
        for text in ("each p when @ = 1 then reject no", "each p when @ < 1 then remove @", "each p set @ 1",
                     "each p default @ from x", "each p when @ > 1 then reject no"):
            self.assertEqual(inner_kinds(text), [[("", "scalar")]])

    def test_slots_above(self):
        self.assertEqual(kinds("when has a.b.c.d then reject no"), [
            ("a", "record"), ("a.b", "record"), ("a.b.c", "record"), ("a.b.c.d", "any"),
        ])
        self.assertEqual(inner_kinds("each a.b when has @.x.y then reject no"), [
            [("", "record"), ("x", "record"), ("x.y", "any")],
        ])
        self.assertEqual(kinds("each a.b when has @.x.y then reject no"), [("a", "record"), ("a.b", "record")])

    def test_ascending(self):
        self.assertEqual([path for path, _ in kinds("remove b and remove aa.b and remove a.c and remove a.b.x")], [
            "a", "a.b", "a.b.x", "a.c", "b", "aa", "aa.b",
        ])

    def test_places_of_entries_for_named_keys(self):
        self.assertEqual(kinds("each p set @.x 1", "when has p.m then reject no"), [
            ("p", "record"), ("p.m", "record"), ("p.m.x", "scalar"),
        ])
        self.assertEqual(kinds("each p remove @", "when has p.m.y or has p.k then reject no"), [
            ("p", "record"), ("p.k", "any"), ("p.m", "record"), ("p.m.a", "rest"), ("p.m.y", "any"),
        ])
        self.assertEqual(kinds("each p when @ > 1 then reject no", "remove p.m"), [("p", "record"), ("p.m", "scalar")])

    def test_only_the_collection_of_the_rule(self):
        texts = ("each p set @.x 1", "each q remove @.y", "when has p.m or has q.n then reject no")
        self.assertEqual(kinds(*texts), [
            ("p", "record"), ("p.m", "record"), ("p.m.x", "scalar"), ("q", "record"), ("q.n", "record"),
            ("q.n.y", "any"),
        ])
        self.assertEqual(inner_kinds(*texts), [[("", "record"), ("x", "scalar")], [("", "record"), ("y", "any")]])

    def test_paths_lead_to_the_document_alone(self):
        texts = ("each p when has x and p.m = 1 then reject no",)
        self.assertEqual(kinds(*texts), [("p", "record"), ("p.m", "scalar"), ("x", "any")])
        self.assertEqual(inner_kinds(*texts), [[("", "any")]])

    def test_a_place_at_the_collection_or_above_it(self):
        self.assertEqual(kinds("each a.p reject no", "when has a.p or has a then reject no"), [
            ("a", "record"), ("a.p", "record"),
        ])
        self.assertEqual(kinds("each a.p reject no", "remove a.p"), [("a", "record"), ("a.p", "record")])
        self.assertEqual(kinds("each a.p reject no", "remove a"), [("a", "record"), ("a.a", "rest"), ("a.p", "record")])

    def test_rules_without_slots(self):
        self.assertEqual(scope("reject no"), NOTHING)
        self.assertEqual(count_samples(scope("reject no")), 1)


class RestTest(unittest.TestCase):
    def test_at_the_target_and_below(self):
        has = "when has a.x.y or has b.x then reject no"
        self.assertEqual(kinds(has, "remove a"), [
            ("a", "record"), ("a.a", "rest"), ("a.x", "record"), ("a.x.a", "rest"), ("a.x.y", "any"), ("b", "record"),
            ("b.x", "any"),
        ])
        self.assertNotIn("rest", dict(kinds(has, "remove a.x.y")).values())
        self.assertEqual(dict(kinds(has, "remove a.x"))["a.x.a"], "rest")
        self.assertNotIn("a.a", dict(kinds(has, "remove a.x")))

    def test_only_remove(self):
        for text in ("when has a then reject no", "set b 1", "remove b", "default b from c", "remove a.b"):
            self.assertNotIn("rest", dict(kinds("when has a.b then reject no", text)).values())

    def test_the_first_letter_that_is_no_key_of_a_slot(self):
        self.assertIn(("a.c", "rest"), kinds("remove a", "when has a.a or has a.b then reject no"))
        self.assertIn(("a.b", "rest"), kinds("remove a", "when has a.a or has a.c or has a.aa then reject no"))
        self.assertIn(("a.a", "rest"), kinds("remove a", "when has a.b then reject no"))
        self.assertIn(("b.b", "rest"), kinds("remove b", "set b.a.x 1"))
        self.assertIn(("a.d", "rest"), kinds("remove a and remove a.a and remove a.b and remove a.c"))

    def test_a_collection_has_none(self):
        self.assertEqual(kinds("each p reject no", "remove p", "set p.m.x 1"), [
            ("p", "record"), ("p.m", "record"), ("p.m.a", "rest"), ("p.m.x", "scalar"),
        ])

    def test_a_collection_between(self):
        self.assertEqual(kinds("each a.p set @.x.y 1", "remove a", "when has a.p.m then reject no"), [
            ("a", "record"), ("a.a", "rest"), ("a.p", "record"), ("a.p.m", "record"), ("a.p.m.a", "rest"),
            ("a.p.m.x", "record"), ("a.p.m.x.a", "rest"), ("a.p.m.x.y", "scalar"),
        ])

    def test_targets_of_the_document_do_not_count_inside(self):
        self.assertEqual(inner_kinds("each a.p set @.x.y 1", "remove a", "remove a.p"), [
            [("", "record"), ("x", "record"), ("x.y", "scalar")],
        ])

    def test_inside_of_unnamed_entries(self):
        self.assertEqual(inner_kinds("each p remove @", "each p set @.a.y 1"), [
            [("", "record"), ("a", "record"), ("a.a", "rest"), ("a.y", "scalar"), ("b", "rest")],
        ])
        self.assertEqual(inner_kinds("each p remove @.x", "each p set @.x.a 1 and set @.x.b 1"), [
            [("", "record"), ("x", "record"), ("x.a", "scalar"), ("x.b", "scalar"), ("x.c", "rest")],
        ])
        self.assertEqual(inner_kinds("each p remove @", "each q set @.x 1"), [
            [("", "any")], [("", "record"), ("x", "scalar")],
        ])

    def test_an_entry_and_named_entries_are_removed(self):
        texts = ("each p when @.x = 1 then remove @", "when has p.m then reject no")
        self.assertEqual(kinds(*texts), [
            ("p", "record"), ("p.m", "record"), ("p.m.a", "rest"), ("p.m.x", "scalar"),
        ])
        self.assertEqual(inner_kinds(*texts), [[("", "record"), ("a", "rest"), ("x", "scalar")]])

    def test_the_target_for_a_named_entry_alone(self):
        texts = ("each p when @.x = 1 then reject no", "remove p.m")
        self.assertEqual(dict(kinds(*texts))["p.m.a"], "rest")
        self.assertEqual(inner_kinds(*texts), [[("", "record"), ("x", "scalar")]])


class TestsTest(unittest.TestCase):
    def test_each_word(self):
        self.assertEqual(scope("when a > 5 or a < 2 then set a 7 and default a true")[1], (
            (("a",), "scalar", None, (("=", ("true",)), ("=", ("number", 7)), ("<", 2), (">", 5)),
             (("null",), ("true",), ("number", 0), ("number", 6), ("number", 7))),
        ))
        self.assertEqual(scope('when not a = "x" then reject no')[1][0][3], (("=", ("text", "x")),))
        self.assertEqual(scope("default a from b")[1][0][3], ())
        self.assertEqual(scope("when has a then set a 1")[1][0][3], (("=", ("number", 1)),))

    def test_order_and_each_once(self):
        condition = " or ".join(["a < 2", "a > 2", "a < -5", "a > -5", "a < 2"])
        actions = " and ".join(["set a -1", "set a 1"])
        more = 'set a "b" and set a 0 and set a false and set a "aa" and set a 1 and set a true and set a "a"'
        found = scope(f"when {condition} then {actions}", more)[1][0][3]
        self.assertEqual(found, tuple(
            [("=", value(one)) for one in (False, True, 0, 1, -1, "a", "b", "aa")]
            + [("<", -5), ("<", 2), (">", -5), (">", 2)]
        ))

    def test_of_other_kinds(self):
        for slot in scope("each p remove @.x", "when has a.b then remove a")[1]:
            self.assertEqual(slot[2:], (None, (), ()))

    def test_pools(self):
        self.assertEqual(scope("when a > 5 then reject no")[1][0][4], (("null",), ("number", 6)))
        self.assertEqual(scope("default a from b")[1][0][4], (("null",), ("false",)))
        self.assertEqual(scope("default a from a")[1][0][4], (("null",),))

    def test_tests_of_entries(self):
        found = scope("each p when @.x > 3 then set @.x 5", "when p.m.x < 1 then remove p.m.x")
        more = (("=", ("number", 5)), ("<", 1), (">", 3))
        self.assertEqual(found[1][-1][3], more)
        self.assertEqual(found[2][0][1][3], more[:1] + more[2:])


class GroupsTest(unittest.TestCase):
    def test_two_places_of_the_document(self):
        self.assertEqual(groups("default a from b"), [0, 0])
        self.assertEqual(groups("default b from a"), [0, 0])
        self.assertEqual(groups("default a from a"), [None])
        self.assertEqual(groups("default a from a and default a from b"), [0, 0])
        self.assertEqual(groups("set a 1 and set b 1"), [None, None])

    def test_chains(self):
        self.assertEqual(groups("default b from d and default c from d", "set a 1"), [None, 0, 0, 0])
        self.assertEqual(groups("default d from b", "default b from c", "default a from d"), [0, 0, 0, 0])
        self.assertEqual(groups("default c from a", "default b from d"), [0, 1, 0, 1])
        self.assertEqual(groups("default a from b", "default c from d"), [0, 0, 1, 1])
        self.assertEqual(groups("default d from c", "default b from a"), [0, 0, 1, 1])
        self.assertEqual(groups("default a from d", "default b from c", "default x from x"), [0, 1, 1, 0, None])

    def test_linked_by_way_of_others_only(self):
        self.assertEqual(groups("default b from a and default d from c"), [0, 0, 1, 1])
        self.assertEqual(groups("default b from a and default d from c", "default c from b"), [0, 0, 0, 0])

    def test_entries_are_tied_each_with_itself(self):
        found = groups("each p default @.x from @.y")
        self.assertEqual(found, [None, None, 0, 0])
        found = groups("each p default @.x from @.y", "when has p.m then reject no")
        self.assertEqual(found, [None, None, 0, 0, None, 1, 1])

    def test_from_the_document_into_entries(self):
        self.assertEqual(groups("each p default @ from x", "when has p.m then reject no"), [None, 0, 0, 0])
        self.assertEqual(groups("each p default @ from p.m"), [None, 0, 0])
        self.assertEqual(groups("each p default @ from @"), [None, None])
        self.assertEqual(groups("each p default @ from @", "default x from p.m"), [None, 0, 0, None])

    def test_by_way_of_a_place_of_the_document(self):
        texts = ("each p default @.x from s", "each q default @.y from s")
        self.assertEqual(groups(*texts), [None, None, 0, None, 0, None, 0])

    def test_collections_in_order(self):
        texts = ("each q default @.x from @.y", "each p default @.x from @.y")
        self.assertEqual(groups(*texts), [None, None, None, 0, 0, None, 1, 1])
        texts = ("each q default @.x from @.y", "each p default @.x from s")
        self.assertEqual([slot[0] for slot in scope(*texts)[1]], [("p",), ("q",), ("s",)])
        self.assertEqual(groups(*texts), [None, None, 0, None, 1, 1, None, 0])

    def test_ties_in_rules_that_reject(self):
        self.assertEqual(groups("default a from b and reject no"), [0, 0])

    def test_tests_and_pools_of_a_group(self):
        slots = scope("default a from b", "when b > 5 then set a 9")[1]
        tests = (("=", ("number", 9)), (">", 5))
        pool = (("null",), ("false",), ("number", 6), ("number", 7), ("number", 9))
        self.assertEqual(slots, tuple([((key,), "scalar", 0, tests, pool) for key in "ab"]))
        slots = scope("default a from b", "when has a and c = true then default b from c")[1]
        tests = (("=", ("true",)),)
        pool = (("null",), ("false",), ("true",))
        self.assertEqual(slots, tuple([((key,), "scalar", 0, tests, pool) for key in "abc"]))
        slots = scope("default a from b and default b from b", "when c > 5 then set b 1")[1]
        self.assertEqual(slots[2], (("c",), "scalar", None, ((">", 5),), (("null",), ("number", 6))))


class CountTest(unittest.TestCase):
    def test_no_rules(self):
        self.assertEqual(count_samples(NOTHING), 1)

    def test_each_kind(self):
        self.assertEqual(count_samples(scope("remove a")), 2)
        self.assertEqual(count_samples(scope("set a 1")), 3)
        self.assertEqual(count_samples(scope("default a from b")), 9)
        self.assertEqual(count_samples(scope("when has a.b then reject no")), 3)
        self.assertEqual(count_samples(scope("remove a and remove a.b")), 5)
        self.assertEqual(count_samples(scope("set a 1 and set b.c 2")), 3 * 4)
        self.assertEqual(count_samples(scope("each p reject no")), 3)
        self.assertEqual(count_samples(scope("each p set @ 1")), 4)
        self.assertEqual(count_samples(scope("each p set @.x 1")), 5)

    def test_collections_below_records(self):
        # a with b: absent, a alone, a and a.b, a and a.b and one of two entries.
        self.assertEqual(count_samples(scope("each a.b set @ 1")), 5)
        # Beside the collection a.b the slot a.c is a scalar with three ways.
        self.assertEqual(count_samples(scope("each a.b set @ 1", "set a.c 1")), (1 + 3 * 2) + 3 * 1 * 2)

    def test_two_collections(self):
        self.assertEqual(count_samples(scope("each p set @ 1", "each q reject no")), 4 + 2 * 2 + 2 * 1)

    def test_example_of_the_interface(self):
        self.assertEqual(count_samples(scope('each parts when @.size > 5 then set @.class "big"')), 11)

    def test_two_hundred_and_one_more(self):
        # 200 = 5 * 5 * 8, and 201 = 3 * 67: a slot with n literals has n + 2 ways.
        two = ("set a 1 and set a 2 and set a 3", "set b 1 and set b 2 and set b 3")
        six = "set c 1 and set c 2 and set c 3 and set c 4 and set c 5 and set c 6"
        self.assertEqual(count_samples(scope(*two, six)), 200)
        self.assertEqual(refusal(*two, f"{six} and set c 7"), ("ScopeError", "samples", ()))
        self.assertEqual(refusal(*two, six, "remove x"), ("ScopeError", "samples", ()))
        many = [" and ".join([f"set a {number}" for number in range(at, at + 5)]) for at in range(0, 65, 5)]
        self.assertEqual(count_samples(scope(*many)), 67)
        self.assertEqual(count_samples(scope(*many[:-1], "set b 1")), 3 * 62)
        self.assertEqual(count_samples(scope(*many, "remove b")), 2 * 67)
        self.assertEqual(refusal(*many, "set b 1"), ("ScopeError", "samples", ()))


class RefusedTest(unittest.TestCase):
    def test_overlap(self):
        self.assertEqual(refusal("each p reject no", "each p.q reject no"), ("ScopeError", "overlap", ("p",)))
        self.assertEqual(refusal("each p.q reject no", "each p reject no"), ("ScopeError", "overlap", ("p", "q")))
        self.assertEqual(
            refusal("each x reject no", "each z.y reject no", "each q.a reject no", "each z reject no"),
            ("ScopeError", "overlap", ("z", "y")),
        )
        self.assertEqual(len(scope("each p reject no", "each pp reject no", "each q.p reject no")[0]), 3)
        self.assertEqual(len(scope("each a.p reject no", "each a.q reject no", "each a.p reject no")[0]), 2)

    def test_kinds_of_the_document(self):
        self.assertEqual(refusal("when has a.b then set a 1"), ("ScopeError", "kinds", ("a",)))
        for text in ("set a.b 1", "default a.b 1", "default a.b from x", "default x from a.b",
                     "when a.b = 1 then remove x", "when a.b < 1 then remove x", "when x = 1 or a.b > 1 then remove x"):
            self.assertEqual(refusal(text, "when has a.b.c then remove x"), ("ScopeError", "kinds", ("a", "b")), text)
        self.assertEqual(len(kinds("when has a.b.c and has a.b and has a then remove a.b")), 4)

    def test_kinds_first_of_the_document_then_inside(self):
        texts = ("each p set @ 1", "each p when has @.x then reject no")
        self.assertEqual(refusal(*texts), ("ScopeError", "kinds", ("p", "@")))
        self.assertEqual(refusal(*texts, "when has z.b then set z 1"), ("ScopeError", "kinds", ("z",)))
        self.assertEqual(refusal(*texts, "when has z.b then set z 1", "remove p.m")[2], ("p", "m"))
        self.assertEqual(
            refusal("each spec.parts set @.size.x 1", "each spec.parts when @.size = 3 then reject no"),
            ("ScopeError", "kinds", ("spec", "parts", "@", "size")),
        )

    def test_kinds_of_a_collection_or_above_it(self):
        for text in ("set p 1", "when p = 1 then reject no", "default x from p"):
            self.assertEqual(refusal("each p reject no", text), ("ScopeError", "kinds", ("p",)))
            self.assertEqual(refusal("each p.q reject no", text), ("ScopeError", "kinds", ("p",)))
        self.assertEqual(refusal("each p.q reject no", "set p.q 1"), ("ScopeError", "kinds", ("p", "q")))

    def test_kinds_inside_of_the_first_collection_that_has_one(self):
        first = "each p when @.b = 1 then set @.b.c 1"
        second = "each a when @.a = 1 then set @.a.c 1 and set @ 1"
        self.assertEqual(refusal(first, second), ("ScopeError", "kinds", ("p", "@", "b")))
        self.assertEqual(refusal(second, first), ("ScopeError", "kinds", ("a", "@")))
        self.assertEqual(refusal("each p reject no", second, first)[2], ("p", "@", "b"))

    def test_kinds_ascending(self):
        self.assertEqual(refusal("when has b.x and has aa.x then set b 1 and set aa 1")[2], ("b",))
        self.assertEqual(refusal("when has a.b.c then set a.b 1 and set a 1")[2], ("a",))

    def test_the_order_of_the_reasons(self):
        kinds_wrong = "when has x.y then set x 1"
        overlap = ("each p reject no", "each p.q reject no")
        many = tuple([f"default k{number} from l{number}" for number in range(4)])
        self.assertEqual(refusal(kinds_wrong, *overlap)[1], "overlap")
        self.assertEqual(refusal(*many, kinds_wrong)[1], "kinds")
        self.assertEqual(refusal(*many, *overlap)[1], "overlap")
        self.assertEqual(refusal(*many), ("ScopeError", "samples", ()))
        self.assertEqual(refusal(*overlap, "set p.q 1")[1:], ("overlap", ("p",)))

    def test_all_letters_are_taken(self):
        letters = "abcdefghijklmnopqrstuvwxyz"
        named = [" and ".join([f"remove p.{letter}" for letter in letters[at:at + 9]]) for at in (0, 9, 18)]
        self.assertEqual(refusal("each p reject no", *named), ("ScopeError", "samples", ()))
        self.assertEqual(refusal("remove p", *named), ("ScopeError", "samples", ()))
        self.assertEqual(refusal("each p reject no", "set p 1", *named), ("ScopeError", "kinds", ("p",)))
        inner = [" and ".join([f"remove @.{letter}" for letter in letters[at:at + 9]]) for at in (0, 9, 18)]
        self.assertEqual(
            refusal("each p remove @", *[f"each p {text}" for text in inner]), ("ScopeError", "samples", ()),
        )

    def test_twelve_long_rules(self):
        texts = ["each p " + " and ".join([f"default @.k{at}.l{number} 1" for number in range(6)]) for at in range(8)]
        for at in range(4):
            asked = " and ".join([f"has p.m{at}{number}" for number in range(7)])
            texts.append(f"when {asked} then reject no")
        self.assertEqual(refusal(*texts), ("ScopeError", "samples", ()))
        filled = [" and ".join([f"default @.a from @.k{at}{number}" for number in range(5)]) for at in range(12)]
        texts = [f"each p {text}" for text in filled]
        self.assertEqual(refusal(*texts), ("ScopeError", "samples", ()))


class WordsTest(unittest.TestCase):
    """Random rules against the words of the points."""

    def test_random_rules(self):
        dice = Dice(100)
        paths = [("p",), ("q",), ("p", "a"), ("p", "a", "x"), ("q", "b"), ("r", "p"), ("r", "p", "m"), ("r",)]
        collections = [None, ("p",), ("p",), ("r", "p"), ("q",), ("p", "a")]
        inner = [(), ("x",), ("y",), ("x", "y"), ("a",)]
        seen = {}
        for _ in range(1500):
            some = [dice.dice.sample(things, dice.dice.randint(1, 4)) for things in (paths, collections, inner)]
            rules = tuple([
                dice.rule(some[0], some[1] + [None], some[2], (True, 0, 5, "t"), 0.05, 2)
                for _ in range(dice.dice.randint(1, 4))
            ])
            found = self.found(rules)
            self.assertEqual(found, Words(rules).told(), rules)
            word = found[1] if found[0] == "ScopeError" else "scope"
            seen[word] = seen.get(word, 0) + 1
            if word == "scope":
                self.assertEqual(count_samples(found), count_by_words(found))
        self.assertEqual(sorted(seen), ["kinds", "overlap", "samples", "scope"])
        self.assertGreater(seen["scope"], 500)

    def found(self, rules):
        try:
            return scope_of(rules)
        except ScopeError as error:
            return ("ScopeError", error.reason, error.path)

    def test_conditions_that_a_function_returned(self):
        atom = alternatives(rules_of("when not ( has a or b = 1 ) then reject no")[0][1])[0][1][0]
        self.assertEqual(scope_of(((None, atom, ()),))[1][0][:2], (("b",), "scalar"))


if __name__ == "__main__":
    unittest.main()

"""Points 30 to 35: documents, their nodes, how they change, and their order."""

import itertools
import unittest

from hookcheck.documents import (
    compare_documents, compare_scalars, document_of, held, keys_below, nodes, with_scalar, without,
)
from hookcheck.errors import NodesError
from hookcheck.paths import compare_paths

RECORD = ("record",)
DOCUMENT = (("a", ("record", (("b", ("null",)),))), ("c", ("number", 5)))
SCALARS_IN_ORDER = (
    [("null",), ("false",), ("true",), ("number", 0)]
    + [("number", n) for n in (1, -1, 2, -2, 3, -3, 10, -10, 11, 999999999, -999999999, 1000000000, -1000000000)]
    + [("number", n) for n in (1000000001, 10 ** 30, -10 ** 30)]
    + [("text", s) for s in ("", " ", "-", "0", "1", "A", "a", "z", "~", "  ", "-1", "1z", "aa", "b ", "abc", "null")]
    + [("text", "z" * 59), ("text", "a" * 60), ("text", "a" * 59 + "b")]
)


def value(told):
    """A value from Python's own: None, True, False, numbers, strings, and dicts for records."""
    if told is None:
        return ("null",)
    if told is True or told is False:
        return (str(told).lower(),)
    if isinstance(told, dict):
        return ("record", fields(told))
    return ("number" if isinstance(told, int) else "text", told)


def fields(told):
    """A document from a dict; keys of one sign before those of two, and so on."""
    return tuple([(key, value(told[key])) for key in sorted(told, key=lambda key: (len(key), key))])


def small_documents(keys, levels):
    """All documents over the ascending keys with records of so many levels, null and the number 1."""
    below = small_documents(keys, levels - 1) if levels > 1 else [()]
    values = [("null",), ("number", 1)] + [("record", inner) for inner in below]
    found = []
    for told in itertools.product([None] + values, repeat=len(keys)):
        found.append(tuple([pair for pair in zip(keys, told) if pair[1] is not None]))
    return found


def set_by_the_words(document, path, scalar):
    """What point 32 says of setting, done on the nodes."""
    held_now = dict(nodes(document))
    for many in range(1, len(path)):
        if held_now.get(path[:many]) != RECORD:
            held_now = {other: held_now[other] for other in held_now if other[:many] != path[:many]}
            held_now[path[:many]] = RECORD
    held_now = {other: held_now[other] for other in held_now if other[:len(path)] != path}
    held_now[path] = scalar
    return held_now


def compare_by_the_words(first, second):
    """What point 34 says."""
    one, other = nodes(first), nodes(second)
    if len(one) != len(other):
        return -1 if len(one) < len(other) else 1
    for (path, content), (other_path, other_content) in zip(one, other):
        if path != other_path:
            return compare_paths(path, other_path)
        if content != other_content:
            if RECORD in (content, other_content):
                return -1 if other_content == RECORD else 1
            return compare_scalars(content, other_content)
    return 0


def fault_by_the_words(pairs):
    """What point 35 says: the first fault as (reason, path), or None."""
    faults = []
    for path, _ in pairs:
        if len([pair for pair in pairs if pair[0] == path]) > 1:
            faults.append((path, "twice"))
        elif len(path) > 1 and (path[:-1], RECORD) not in pairs:
            faults.append((path, "above"))
    first = None
    for path, reason in faults:
        if first is None or compare_paths(path, first[1]) < 0:
            first = (reason, path)
    return first


class NodesTest(unittest.TestCase):
    def test_example(self):
        self.assertEqual(nodes(DOCUMENT), ((("a",), RECORD), (("a", "b"), ("null",)), (("c",), ("number", 5))))

    def test_empty_document(self):
        self.assertEqual(nodes(()), ())

    def test_empty_record(self):
        self.assertEqual(nodes(fields({"a": {}})), ((("a",), RECORD),))

    def test_order_of_paths(self):
        document = fields({"b": {"z": 1, "aa": {"x": ""}}, "aa": False, "a": {"c": None}})
        self.assertEqual(nodes(document), (
            (("a",), RECORD), (("a", "c"), ("null",)), (("b",), RECORD), (("b", "z"), ("number", 1)),
            (("b", "aa"), RECORD), (("b", "aa", "x"), ("text", "")), (("aa",), ("false",)),
        ))

    def test_kinds_of_scalars_stay_apart(self):
        document = fields({"a": 1, "b": "1", "c": True, "d": "true", "e": 0, "f": False, "g": None, "h": "record"})
        self.assertEqual([content for _, content in nodes(document)], [
            ("number", 1), ("text", "1"), ("true",), ("text", "true"), ("number", 0), ("false",), ("null",),
            ("text", "record"),
        ])

    def test_five_levels(self):
        document = fields({"a": {"b": {"c": {"d": {"e": 7, "f": {}}}}}})
        self.assertEqual(nodes(document)[4:], (
            (("a", "b", "c", "d", "e"), ("number", 7)), (("a", "b", "c", "d", "f"), RECORD),
        ))
        self.assertEqual([path for path, _ in nodes(document)[:4]], [("a", "b", "c", "d")[:n] for n in range(1, 5)])

    def test_ascending_in_all_small_documents(self):
        for document in small_documents(["b", "aa"], 3):
            paths = [path for path, _ in nodes(document)]
            for path, later in zip(paths, paths[1:]):
                self.assertEqual(compare_paths(path, later), -1)


class HeldTest(unittest.TestCase):
    def test_examples(self):
        self.assertEqual(held(DOCUMENT, ("a",)), RECORD)
        self.assertEqual(held(DOCUMENT, ("a", "b")), ("null",))
        self.assertIsNone(held(DOCUMENT, ("b",)))
        self.assertEqual(held(DOCUMENT, ()), RECORD)
        self.assertEqual((keys_below(DOCUMENT, ()), keys_below(DOCUMENT, ("c",))), (("a", "c"), ()))

    def test_root_of_the_empty_document(self):
        self.assertEqual(held((), ()), RECORD)
        self.assertEqual(keys_below((), ()), ())

    def test_below_scalars_and_absent_paths(self):
        for path in (("c", "x"), ("a", "b", "c"), ("x", "y"), ("a", "c"), ("b", "b", "b", "b", "b"), ("c", "c", "c")):
            self.assertIsNone(held(DOCUMENT, path), path)
            self.assertEqual(keys_below(DOCUMENT, path), (), path)

    def test_keys_below(self):
        document = fields({"p": {"aa": 1, "b": {}, "a-": "", "a": {"z": 0, "y": 0}}, "q": {}})
        self.assertEqual(keys_below(document, ("p",)), ("a", "b", "a-", "aa"))
        self.assertEqual(keys_below(document, ("p", "a")), ("y", "z"))
        self.assertEqual(keys_below(document, ("q",)), ())
        self.assertEqual(keys_below(document, ("p", "b")), ())
        self.assertEqual(keys_below(document, ("p", "aa")), ())
        self.assertEqual(keys_below(document, ()), ("p", "q"))

    def test_five_levels(self):
        document = fields({"a": {"b": {"c": {"d": {"e": "deep"}}}}})
        self.assertEqual(held(document, ("a", "b", "c", "d", "e")), ("text", "deep"))
        self.assertEqual(held(document, ("a", "b", "c", "d")), RECORD)
        self.assertEqual(keys_below(document, ("a", "b", "c", "d")), ("e",))

    def test_all_small_documents(self):
        paths = [path for many in range(4) for path in itertools.product(["b", "c", "aa"], repeat=many)]
        for document in small_documents(["b", "aa"], 2):
            told = dict(nodes(document))
            for path in paths:
                self.assertEqual(held(document, path), RECORD if path == () else told.get(path))
                below = [other[-1] for other, _ in nodes(document) if other[:-1] == path]
                self.assertEqual(keys_below(document, path), tuple(below))


class SetTest(unittest.TestCase):
    def test_examples(self):
        wanted = fields({"a": {"b": 2}})
        for told in ({}, {"a": 5}, {"a": {"b": {"c": 1}}}):
            self.assertEqual(with_scalar(fields(told), ("a", "b"), ("number", 2)), wanted)
        self.assertEqual(
            with_scalar(DOCUMENT, ("c", "x"), ("text", "y")),
            (("a", ("record", (("b", ("null",)),))), ("c", ("record", (("x", ("text", "y")),)))),
        )

    def test_the_place_of_a_new_key(self):
        document = fields({"b": 1, "d": 1, "aa": 1})
        for key in ("a", "c", "e", "a-", "ab", "aaa"):
            self.assertEqual(with_scalar(document, (key,), ("null",)), fields({"b": 1, "d": 1, "aa": 1, key: None}))

    def test_other_fields_stay(self):
        document = fields({"a": {"x": {"y": 1, "z": 2}, "w": 3}, "b": {}})
        self.assertEqual(
            with_scalar(document, ("a", "x", "y"), ("false",)),
            fields({"a": {"x": {"y": False, "z": 2}, "w": 3}, "b": {}}),
        )
        self.assertEqual(with_scalar(document, ("a", "x"), ("true",)), fields({"a": {"x": True, "w": 3}, "b": {}}))
        self.assertEqual(with_scalar(document, ("a",), ("null",)), fields({"a": None, "b": {}}))
        self.assertEqual(with_scalar(document, ("a", "w", "v", "u"), ("null",)), fields(
            {"a": {"x": {"y": 1, "z": 2}, "w": {"v": {"u": None}}}, "b": {}},
        ))

    def test_the_same_scalar_again(self):
        self.assertEqual(with_scalar(DOCUMENT, ("c",), ("number", 5)), DOCUMENT)

    def test_five_levels(self):
        path = ("a", "b", "c", "d", "e")
        wanted = fields({"a": {"b": {"c": {"d": {"e": "s"}}}}})
        self.assertEqual(with_scalar((), path, ("text", "s")), wanted)
        self.assertEqual(with_scalar(fields({"a": {"b": {"c": 1}}}), path, ("text", "s")), wanted)
        self.assertEqual(with_scalar(wanted, path[:2], ("number", 0)), fields({"a": {"b": 0}}))

    def test_all_small_documents(self):
        paths = [path for many in (1, 2, 3) for path in itertools.product(["b", "c", "aa"], repeat=many)]
        for document in small_documents(["b", "aa"], 2):
            for path in paths:
                for scalar in (("null",), ("number", 2)):
                    told = with_scalar(document, path, scalar)
                    self.assertEqual(dict(nodes(told)), set_by_the_words(document, path, scalar))
                    self.assertEqual(document_of(nodes(told)), told)


class RemoveTest(unittest.TestCase):
    def test_examples(self):
        told = [without(fields(told), ("a", "b")) for told in ({}, {"a": 5}, {"a": {"b": {"c": 1}}})]
        self.assertEqual(told, [(), fields({"a": 5}), fields({"a": {}})])
        self.assertEqual(without(DOCUMENT, ("a", "b")), (("a", ("record", ())), ("c", ("number", 5))))

    def test_records_above_stay(self):
        document = fields({"a": {"b": {"c": {"d": {"e": 1}}}}})
        self.assertEqual(without(document, ("a", "b", "c", "d", "e")), fields({"a": {"b": {"c": {"d": {}}}}}))
        self.assertEqual(without(document, ("a", "b", "c")), fields({"a": {"b": {}}}))
        self.assertEqual(without(document, ("a",)), ())

    def test_absent_paths(self):
        for path in (("b",), ("a", "c"), ("a", "b", "c"), ("c", "x"), ("c", "x", "y"), ("x", "y"), ("aa",)):
            self.assertEqual(without(DOCUMENT, path), DOCUMENT, path)

    def test_all_small_documents(self):
        paths = [path for many in (1, 2, 3) for path in itertools.product(["b", "c", "aa"], repeat=many)]
        for document in small_documents(["b", "aa"], 2):
            for path in paths:
                told = without(document, path)
                left = [node for node in nodes(document) if node[0][:len(path)] != path]
                self.assertEqual(nodes(told), tuple(left))
                self.assertEqual(document_of(nodes(told)), told)


class ScalarOrderTest(unittest.TestCase):
    def test_order(self):
        for (at, first), (behind, second) in itertools.product(enumerate(SCALARS_IN_ORDER), repeat=2):
            wanted = 0 if at == behind else -1 if at < behind else 1
            self.assertEqual(compare_scalars(first, second), wanted, (first, second))

    def test_one_in_three_kinds(self):
        self.assertEqual(compare_scalars(("number", 1), ("true",)), 1)
        self.assertEqual(compare_scalars(("number", 1), ("text", "1")), -1)
        self.assertEqual(compare_scalars(("true",), ("text", "true")), -1)
        self.assertEqual(compare_scalars(("text", "1"), ("text", "1")), 0)


class DocumentOrderTest(unittest.TestCase):
    def check_ascending(self, told):
        ascending = [fields(one) for one in told]
        for (at, first), (behind, second) in itertools.product(enumerate(ascending), repeat=2):
            wanted = 0 if at == behind else -1 if at < behind else 1
            self.assertEqual(compare_documents(first, second), wanted, (first, second))

    def test_examples(self):
        self.check_ascending([
            {}, {"b": None}, {"b": {}}, {"a": 1, "c": 0}, {"a": {"b": 9}}, {"a": {}, "b": 0}, {"b": 0, "c": 0},
        ])
        self.assertEqual(compare_documents((("x", ("number", -1)),), (("x", ("number", 2)),)), -1)

    def test_one_node(self):
        self.check_ascending([
            {"b": None}, {"b": 0}, {"b": 1}, {"b": -1}, {"b": "z"}, {"b": "aa"}, {"b": {}}, {"aa": None},
        ])

    def test_fewer_nodes_count_first(self):
        self.check_ascending([{"zz": {}}, {"a": {"b": 1}}, {"a": {"b": {"c": 1}}}, {"a": {"b": {"c": {"d": 1}}}}])

    def test_first_difference_counts(self):
        self.check_ascending([
            {"a": 1, "b": 9, "c": 9}, {"a": 1, "b": {}, "c": 0}, {"a": -1, "b": 0, "c": 0}, {"a": {"x": {}}, "b": 0},
            {"a": {"x": {}}, "aa": 0}, {"a": {"xx": 0}, "b": {}}, {"a": {}, "b": {"x": 0}}, {"a": {}, "b": {}, "c": 0},
        ])

    def test_equal(self):
        self.assertEqual(compare_documents(DOCUMENT, DOCUMENT), 0)
        self.assertEqual(compare_documents((), ()), 0)

    def test_all_small_documents(self):
        told = small_documents(["b", "aa"], 2)
        for first, second in itertools.product(told, repeat=2):
            self.assertEqual(compare_documents(first, second), compare_by_the_words(first, second))

    def test_many_nodes(self):
        first = fields({"k" + str(at): at for at in range(40)})
        second = with_scalar(first, ("k39",), ("number", -39))
        self.assertEqual(compare_documents(first, second), -1)
        self.assertEqual(compare_documents(second, first), 1)
        self.assertEqual(compare_documents(without(second, ("k0",)), first), -1)


class DocumentOfTest(unittest.TestCase):
    def check_fault(self, pairs, reason, path):
        for told in itertools.permutations(pairs) if len(pairs) < 7 else [pairs, pairs[::-1]]:
            with self.assertRaises(NodesError) as caught:
                document_of(tuple(told))
            self.assertEqual((caught.exception.reason, caught.exception.path), (reason, path), told)

    def test_examples(self):
        pairs = ((("c",), ("true",)), (("a", "b"), ("null",)), (("a",), RECORD))
        self.assertEqual(document_of(pairs), (("a", ("record", (("b", ("null",)),))), ("c", ("true",))))
        self.check_fault(((("c",), ("true",)), (("a", "b"), ("null",))), "above", ("a", "b"))

    def test_no_nodes(self):
        self.assertEqual(document_of(()), ())

    def test_any_order(self):
        document = fields({"b": {"aa": 1, "z": {}}, "aa": {"c": "x"}})
        for pairs in itertools.permutations(nodes(document)):
            self.assertEqual(document_of(pairs), document)

    def test_forty_nodes_and_five_levels(self):
        told = {key: {"b": {"c": {"d": {"e": 1, "f": {}, "ee": ""}}}} for key in ("a", "z", "a0", "aa", "bb")}
        document = fields({key: told[key] for key in told} | {"bb": {"q": 4, "qq": {}, "a": None, "b": True}})
        pairs = nodes(document) + ((("zz",), RECORD),) + tuple([(("zz", "k" + str(at)), RECORD) for at in range(6)])
        self.assertEqual(len(pairs), 40)
        for order in (pairs, pairs[::-1], pairs[20:] + pairs[:20], pairs[1::2] + pairs[::2]):
            self.assertEqual(nodes(document_of(order)), nodes(document) + pairs[-7:])

    def test_twice(self):
        self.check_fault(((("a",), ("null",)), (("a",), ("null",))), "twice", ("a",))
        self.check_fault(((("a",), ("null",)), (("a",), ("number", 1))), "twice", ("a",))
        self.check_fault(((("a",), RECORD), (("a",), ("number", 1)), (("a", "b"), ("null",))), "twice", ("a",))
        self.check_fault(((("a",), RECORD), (("a", "b"), RECORD), (("a", "b"), RECORD)), "twice", ("a", "b"))
        self.check_fault(((("a",), RECORD),) * 3, "twice", ("a",))

    def test_above(self):
        self.check_fault(((("a", "b"), RECORD),), "above", ("a", "b"))
        self.check_fault(((("a",), ("null",)), (("a", "b"), ("null",))), "above", ("a", "b"))
        self.check_fault(((("a",), ("text", "record")), (("a", "b"), ("null",))), "above", ("a", "b"))
        self.check_fault(((("a",), RECORD), (("a", "b", "c"), ("null",))), "above", ("a", "b", "c"))
        self.check_fault(((("b",), RECORD), (("a", "b"), ("null",))), "above", ("a", "b"))
        self.check_fault(((("a", "b", "c", "d", "e"), ("null",)),), "above", ("a", "b", "c", "d", "e"))

    def test_first_path_and_first_fault_count(self):
        both = ((("a", "b"), ("null",)), (("a", "b"), ("true",)))
        self.check_fault(both, "twice", ("a", "b"))
        self.check_fault(both + ((("b",), RECORD), (("b",), RECORD)), "twice", ("a", "b"))
        self.check_fault(((("b",), RECORD), (("b",), RECORD), (("a", "x"), ("null",))), "above", ("a", "x"))
        self.check_fault(((("aa",), RECORD), (("aa",), RECORD), (("b", "x"), ("null",))), "above", ("b", "x"))
        self.check_fault(((("b", "x"), RECORD), (("b", "x", "y"), RECORD), (("c", "a"), RECORD)), "above", ("b", "x"))
        self.check_fault(((("a",), ("null",)), (("a", "b", "c"), RECORD), (("a", "b"), RECORD)), "above", ("a", "b"))
        three = ((("b",), ("null",)), (("b",), ("null",)), (("a",), RECORD))
        self.check_fault(three + ((("aa", "a"), RECORD),), "twice", ("b",))

    def test_all_small_tuples(self):
        paths = [("b",), ("b", "b"), ("b", "b", "b"), ("aa",), ("b", "aa")]
        pairs = list(itertools.product(paths, [RECORD, ("null",), ("text", "")]))
        for many in (1, 2, 3):
            for told in itertools.product(pairs, repeat=many):
                fault = fault_by_the_words(told)
                if fault is None:
                    self.assertEqual(sorted(nodes(document_of(told))), sorted(told))
                    continue
                with self.assertRaises(NodesError) as caught:
                    document_of(told)
                self.assertEqual((caught.exception.reason, caught.exception.path), fault, told)

    def test_what_the_nodes_tell_is_the_document(self):
        for document in small_documents(["b", "aa"], 2):
            self.assertEqual(document_of(nodes(document)), document)


if __name__ == "__main__":
    unittest.main()

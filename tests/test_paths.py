"""Points 20 to 24: keys, strings and paths."""

import itertools
import re
import unittest

from hookcheck.paths import above, compare_paths, compare_texts, covers, is_key, read_path, show_path

PRINTABLE = [chr(code) for code in range(32, 127) if chr(code) != "%"]
KEY = re.compile("[a-z][a-zA-Z0-9-]{0,15}")
LONGEST = "abcdefghijklmnop"


def paths_in_order(keys, longest):
    """All paths over the ascending keys, in the order of paths: each one directly before those below it."""
    found = [()]
    if longest:
        for key in keys:
            found.extend([(key,) + rest for rest in paths_in_order(keys, longest - 1)])
    return found


class KeyTest(unittest.TestCase):
    def test_keys(self):
        for text in ("a", "team-a", "x9", "maxCPU", "a-", "z", "a--", "a-9Z", "hook", "true", LONGEST):
            self.assertIs(is_key(text), True, text)

    def test_other_strings(self):
        for text in ("", "Spec", "9x", "-a", "a_b", "a.b", "a b", " a", "a ", "a.", ".a", "A", "0", "-", LONGEST + "q"):
            self.assertIs(is_key(text), False, text)

    def test_lengths(self):
        for length in range(81):
            self.assertIs(is_key("k" * length), 1 <= length <= 16, length)
            self.assertIs(is_key("a" + "Z" * length), length <= 15, length)

    def test_every_character_at_every_place(self):
        for sign in PRINTABLE:
            self.assertIs(is_key(sign), sign in "abcdefghijklmnopqrstuvwxyz", sign)
            for text in (sign + "a", "a" + sign, "a" + sign + "a", "abcdefghijklmno" + sign, sign + LONGEST[:15]):
                self.assertIs(is_key(text), KEY.fullmatch(text) is not None, text)


class OrderTest(unittest.TestCase):
    def check_order(self, compare, ascending):
        for (at, first), (behind, second) in itertools.product(enumerate(ascending), repeat=2):
            wanted = 0 if at == behind else -1 if at < behind else 1
            told = compare(first, second)
            self.assertEqual(told, wanted, (first, second))
            self.assertIs(isinstance(told, bool), False)

    def test_texts_of_the_document(self):
        self.check_order(compare_texts, ["z", "aa"])
        self.check_order(compare_texts, ["a-", "a0", "aA", "aa"])
        self.assertEqual((compare_texts("z", "aa"), compare_texts("aA", "a0"), compare_texts("b", "b")), (-1, 1, 0))

    def test_texts_by_length_then_by_the_first_place_that_differs(self):
        self.check_order(compare_texts, ["", " ", "~", "  ", " ~", "~ ", "~~", "   ", "zz ", "zz~", " zzz"])
        self.check_order(compare_texts, ["abd", "abdc", "abe~", "acaa", "b   "])

    def test_texts_of_one_character_are_in_ascii_order(self):
        self.check_order(compare_texts, PRINTABLE)

    def test_all_short_texts(self):
        signs = "-0Aa"
        ascending = [""]
        for length in (1, 2, 3):
            ascending.extend(["".join(told) for told in itertools.product(signs, repeat=length)])
        self.check_order(compare_texts, ascending)

    def test_long_texts(self):
        self.check_order(compare_texts, ["z" * 79, "a" * 79 + "A", "a" * 80, "b" + "a" * 79])

    def test_paths_of_the_document(self):
        self.check_order(compare_paths, [
            ("a",), ("a", "b"), ("a", "b", "x"), ("a", "c"), ("b",), ("aa",), ("aa", "b"),
        ])
        self.assertEqual(compare_paths(("a", "c"), ("a", "b", "x")), 1)
        self.assertEqual(compare_paths(("a",), ("a", "b")), -1)

    def test_root_comes_first(self):
        self.check_order(compare_paths, [(), ("a",), ("a", "a", "a", "a", "a"), ("b",)])

    def test_keys_decide_one_by_one_and_not_the_written_form(self):
        self.check_order(compare_paths, [
            ("a", "zz"), ("a", "zz", "z"), ("b", "a"), ("a-",), ("a0", "a"), ("aA",), ("aa",),
        ])

    def test_paths_of_five_keys(self):
        self.check_order(compare_paths, [
            ("a", "b", "c", "d"), ("a", "b", "c", "d", "e"), ("a", "b", "c", "d", "dd"), ("a", "b", "c", "e", "a"),
        ])

    def test_all_small_paths(self):
        self.check_order(compare_paths, paths_in_order(["b", "z", "a-", "aa"], 3))


class CoverTest(unittest.TestCase):
    def test_root_covers_all(self):
        for path in ((), ("a",), ("a", "b", "c", "d", "e")):
            self.assertIs(covers((), path), True)

    def test_only_the_root_covers_the_root(self):
        self.assertIs(covers(("a",), ()), False)
        self.assertIs(covers(("a", "b"), ()), False)

    def test_ordinary(self):
        self.assertIs(covers(("a",), ("a",)), True)
        self.assertIs(covers(("a",), ("a", "b")), True)
        self.assertIs(covers(("a", "b"), ("a", "b", "c", "d", "e")), True)
        self.assertIs(covers(("a", "b"), ("a",)), False)
        self.assertIs(covers(("a",), ("b",)), False)
        self.assertIs(covers(("a",), ("aa",)), False)
        self.assertIs(covers(("a", "b"), ("a", "bb")), False)
        self.assertIs(covers(("b",), ("a", "b")), False)
        self.assertIs(covers(("a", "b"), ("a", "c", "b")), False)

    def test_all_small_paths(self):
        for first, second in itertools.product(paths_in_order(["a", "b"], 3), repeat=2):
            wanted = len(first) <= len(second) and all([one == other for one, other in zip(first, second)])
            self.assertIs(covers(first, second), wanted, (first, second))


class AboveTest(unittest.TestCase):
    def test_above(self):
        self.assertEqual(above(()), ())
        self.assertEqual(above(("a",)), ())
        self.assertEqual(above(("a", "b")), (("a",),))
        self.assertEqual(above(("spec", "parts", "main")), (("spec",), ("spec", "parts")))
        self.assertEqual(above(("a", "b", "c", "d", "e")), (
            ("a",), ("a", "b"), ("a", "b", "c"), ("a", "b", "c", "d"),
        ))


class WrittenTest(unittest.TestCase):
    def test_examples(self):
        self.assertEqual(read_path("spec.maxCPU", 2), ("spec", "maxCPU"))
        self.assertIsNone(read_path("spec.maxCPU", 1))
        self.assertIsNone(read_path("spec.", 5))
        self.assertEqual(read_path("spec.parts.main", 5), ("spec", "parts", "main"))
        self.assertEqual(show_path(("spec", "parts", "main")), "spec.parts.main")

    def test_strings_that_denote_no_path(self):
        for text in ("a..b", ".a", "a.", "", "a. b", ".", "..", "a.b.", ".a.b", "a...b", " a", "a ", "a .b", "A.b",
                     "a.B", "a.9", "a.-b", "a_b", "a.b_c", "a,b", "a/b", "@.a", "a.@", "k" * 17, "a." + "k" * 17):
            for most in range(1, 6):
                self.assertIsNone(read_path(text, most), (text, most))

    def test_number_of_keys(self):
        keys = ("a", "b1", "cC", "d-", "eeeeeeeeeeeeeeee", "f", "g")
        for many in range(1, 8):
            for most in range(1, 6):
                wanted = keys[:many] if many <= most else None
                self.assertEqual(read_path(".".join(keys[:many]), most), wanted, (many, most))

    def test_reserved_words_are_keys(self):
        self.assertEqual(read_path("set", 1), ("set",))
        self.assertEqual(read_path("and.or.true", 3), ("and", "or", "true"))

    def test_what_is_written_is_read(self):
        for path in paths_in_order(["b", "a-", "aZ9"], 4)[1:]:
            self.assertEqual(show_path(path), "".join([key + "." for key in path])[:-1])
            self.assertEqual(read_path(show_path(path), 4), path)


if __name__ == "__main__":
    unittest.main()

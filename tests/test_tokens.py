"""Point 43: tokens."""

import itertools
import unittest

from hookcheck.tokens import tokens_of


class TokensTest(unittest.TestCase):
    def test_example(self):
        self.assertEqual(tokens_of("when (x = 1)"), ("when", "(x", "=", "1)"))

    def test_no_tokens(self):
        for text in ("", " ", " " * 120):
            self.assertEqual(tokens_of(text), ())

    def test_spaces_ahead_behind_and_doubled(self):
        for text in ("a b", " a b", "a b ", "a  b", "   a    b   "):
            self.assertEqual(tokens_of(text), ("a", "b"))

    def test_only_spaces_separate(self):
        self.assertEqual(tokens_of("a(b)=c<d>e"), ("a(b)=c<d>e",))
        self.assertEqual(tokens_of("( a )"), ("(", "a", ")"))
        self.assertEqual(tokens_of('"x#y" #z,(=);'), ('"x#y"', "#z,(=);"))
        for sign in [chr(code) for code in range(33, 127) if chr(code) != "%"]:
            self.assertEqual(tokens_of(f"a{sign}b"), (f"a{sign}b",))
            self.assertEqual(tokens_of(f"{sign} a {sign}"), (sign, "a", sign))

    def test_repeated_tokens_stay(self):
        self.assertEqual(tokens_of("not not not x"), ("not", "not", "not", "x"))

    def test_longest_string(self):
        self.assertEqual(tokens_of("x" * 120), ("x" * 120,))
        self.assertEqual(tokens_of("x " * 60), ("x",) * 60)

    def test_all_short_strings(self):
        for signs in itertools.product(" ab", repeat=6):
            wanted = []
            ahead = " "
            for sign in signs:
                if sign != " " and ahead == " ":
                    wanted.append("")
                if sign != " ":
                    wanted[-1] += sign
                ahead = sign
            self.assertEqual(tokens_of("".join(signs)), tuple(wanted))


if __name__ == "__main__":
    unittest.main()

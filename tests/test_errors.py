"""Point 6 and the list of hookcheck/errors.py."""

import unittest

from hookcheck import errors

ATTRIBUTES = {
    "NodesError": ("reason", "path"),
    "ReadError": ("line", "reason", "token"),
    "UnknownHook": ("name",),
    "ScopeError": ("reason", "path"),
    "Misfit": ("kind", "path"),
    "NotParts": ("number",),
    "NotSamples": ("number",),
    "TooMany": ("reason",),
    "Broken": ("claim", "document"),
    "NothingToUndo": (),
}
EXAMPLES = {
    "reason": "twice",
    "path": ("a", "b"),
    "line": 3,
    "token": None,
    "name": "sizes",
    "kind": "scalar",
    "number": 2,
    "claim": 1,
    "document": (("a", ("null",)),),
}


class ErrorTest(unittest.TestCase):
    def test_base_is_a_value_error(self):
        self.assertIs(errors.HookcheckError.__bases__[0], ValueError)

    def test_all_derive_from_the_base_and_none_from_another(self):
        classes = [getattr(errors, name) for name in ATTRIBUTES]
        for one in classes:
            self.assertTrue(issubclass(one, errors.HookcheckError))
            for other in classes:
                self.assertEqual(issubclass(one, other), one is other, (one, other))

    def test_attributes_are_set_on_creation(self):
        for name, attributes in ATTRIBUTES.items():
            error = getattr(errors, name)(*[EXAMPLES[attribute] for attribute in attributes])
            for attribute in attributes:
                self.assertEqual(getattr(error, attribute), EXAMPLES[attribute], (name, attribute))

    def test_each_is_raised_and_caught_by_the_base(self):
        for name, attributes in ATTRIBUTES.items():
            with self.assertRaises(errors.HookcheckError):
                raise getattr(errors, name)(*[EXAMPLES[attribute] for attribute in attributes])

    def test_two_errors_do_not_share_attributes(self):
        first = errors.NodesError("twice", ("a",))
        second = errors.NodesError("above", ("b", "c"))
        self.assertEqual((first.reason, first.path), ("twice", ("a",)))
        self.assertEqual((second.reason, second.path), ("above", ("b", "c")))


if __name__ == "__main__":
    unittest.main()

"""The examples of the interface: what stands behind >>> is run, and shows what stands below it."""

import pathlib
import unittest

from hookcheck.errors import HookcheckError

EXAMPLES = pathlib.Path(__file__).resolve().parent / "examples"


def steps_of(text):
    """Pairs of a line of code and what it has to show, None for nothing."""
    for step in text.split(">>> ")[1:]:
        code, _, shown = step.partition("\n")
        yield code, shown.strip() or None


def shown_by(code, names):
    """What the line of code shows: its value, "raises" and the class of its error, or None."""
    try:
        try:
            told = eval(compile(code, "example", "eval"), names)
        except SyntaxError:
            exec(compile(code, "example", "exec"), names)
            return None
    except HookcheckError as error:
        return f"raises {error.__class__.__name__}"
    return None if told is None else repr(told)


class ExamplesTest(unittest.TestCase):
    def test_all(self):
        files = sorted(EXAMPLES.glob("*.txt"))
        self.assertNotEqual(files, [])
        for file in files:
            names = {}
            steps = list(steps_of(file.read_text()))
            self.assertGreater(len(steps), 1, file)
            for code, shown in steps:
                with self.subTest(file=file.stem, code=code):
                    self.assertEqual(shown_by(code, names), shown)


if __name__ == "__main__":
    unittest.main()

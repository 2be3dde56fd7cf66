"""The form of the package: ../shared/LANGUAGE.md, as far as a short test can see it, and where things are defined."""

import ast
import builtins
import inspect
import pathlib
import unittest

PACKAGE = pathlib.Path(__file__).resolve().parent.parent / "hookcheck"
FILES = sorted(path for path in PACKAGE.rglob("*") if "__pycache__" not in path.parts and path.is_file())
INTERFACE = {
    "paths": ["is_key(text)", "compare_texts(first, second)", "compare_paths(first, second)", "covers(first, second)",
              "above(path)", "read_path(text, most)", "show_path(path)"],
    "documents": ["nodes(document)", "document_of(nodes)", "held(document, path)", "keys_below(document, path)",
                  "with_scalar(document, path, scalar)", "without(document, path)", "compare_scalars(first, second)",
                  "compare_documents(first, second)"],
    "tokens": ["tokens_of(text)"],
    "reader": ["read_hooks(lines)", "read_rule(text)", "read_claim(text)"],
    "printer": ["show_rule(rule)", "show_claim(claim)", "show_hooks(hooks)"],
    "conditions": ["entries(document, collection)", "holds(condition, document, *, entry=None)",
                   "alternatives(condition)", "breaches(claim, document)"],
    "calls": ["apply_rule(rule, document)", "call_hook(hook, document)", "replayed(document, effects)"],
    "plans": ["call_unit(hooks, unit, document)", "run(hooks, plan, document)", "outcome(hooks, plan, document)"],
    "origins": ["origin_of(log, path)", "origins(hooks, plan, document)"],
    "pools": ["passes(test, scalar)", "alike(tests, first, second)", "pool_of(tests, many)"],
    "scopes": ["scope_of(rules)", "count_samples(scope)"],
    "parts": ["unnamed_entries(scope, document)", "misfit(scope, document)", "parts(scope, document)",
              "joined(scope, parts)"],
    "samples": ["each_sample(scope)", "is_sample(scope, document)", "samples_of(scope, document, *, apart=None)",
                "first_with(scope, samples)"],
    "questions": ["compare_plans(hook_set, plan, other_set, other_plan)",
                  "list_differences(hook_set, plan, other_set, other_plan, many)",
                  "find_violation(hook_set, plan, claim)", "count_passes(hook_set, plan)",
                  "first_acts(hook_set, plan)", "find_idle(hook_set, plan)"],
    "tables": ["call_table(hook_set, units)", "outcome_row(hook_set, plan)", "numbers_of(hook_set, document)"],
    "graphs": ["ends_from(table, state)", "table_conflict(table)", "table_fight(table)", "heights(table)",
               "takes_ranks(table, ranks)", "end_marks(table)", "takes_marks(table, marks)"],
    "walks": ["walk(table, plan, state)", "round_ends(table)", "tell_apart(table, first, second)", "classes(table)"],
    "schedules": ["follow(hooks, units, document, schedule)", "find_conflict(hook_set, units)",
                  "find_fight(hook_set, units)", "call_bound(hook_set, ranks, document)"],
    "reductions": ["same_outcomes(hook_set, plan, other)", "least_set(hook_set, plan)",
                   "shortest_calls(hook_set, plan, most)", "first_restless(hook_set, names, again, limit)",
                   "call_again(hook_set, names, limit)"],
}
CLASSES = {  # The file of each class, how it is made, its properties and its methods.
    "HookSet": ("hooks", "(hooks)", ["hooks", "names", "rules", "scope", "samples"],
                ["hook(self, name)", "check(self, document)", "run(self, plan, document)", "__len__(self)",
                 "__iter__(self)", "__contains__(self, name)"]),
    "Desk": ("desks", "(hooks, plan)", ["hooks", "plan", "current", "claims", "hook_set", "log"],
             ["put(self, hook, place)", "drop(self, name)", "move(self, name, place)", "use(self, plan)",
              "require(self, claim)", "undo(self)", "rehearse(self, changes)", "replayed(cls, hooks, plan, log)",
              "__len__(self)"]),
}
CALLED = set(  # L8
    "len range enumerate zip min max sum abs sorted reversed int str bool list tuple dict set isinstance ord repr any "
    "all divmod map iter next super property staticmethod classmethod Exception ValueError TypeError KeyError "
    "IndexError LookupError ZeroDivisionError NotImplementedError StopIteration".split()
)
METHODS = set(  # L25
    "append clear copy count endswith extend find get index insert isalnum isalpha isdigit islower isspace isupper "
    "items join keys ljust lower lstrip partition pop remove replace reverse rfind rjust rpartition rsplit rstrip "
    "setdefault split splitlines startswith strip update upper values zfill bit_length sort add discard "
    "removeprefix removesuffix isascii __init__".split()
)
BARRED = set(  # L17
    "type typing enum Enum IntEnum Flag Generic Protocol ABC namedtuple NamedTuple TypedDict register mro elements "
    "open input law eval exec exit id dir vars globals locals help license credits compile os gc".split()
)
DECORATORS = {"property", "staticmethod", "classmethod"}
STATEMENTS = (ast.AsyncFunctionDef, ast.AsyncFor, ast.AsyncWith, ast.Await, ast.Div, ast.Global, ast.MatMult)


def trees():
    """Each Python file of the package with its tree and all nodes of it."""
    for path in FILES:
        tree = ast.parse(path.read_text())
        yield path, tree, list(ast.walk(tree))


def bound_names(found):
    """All names that functions, classes, parameters and assignments bind."""
    for node in found:
        if isinstance(node, (ast.FunctionDef, ast.ClassDef)):
            yield node.name
        elif isinstance(node, ast.arg):
            yield node.arg
        elif isinstance(node, ast.Name) and not isinstance(node.ctx, ast.Load):
            yield node.id


class FormTest(unittest.TestCase):
    def test_files(self):
        self.assertIn(PACKAGE / "__init__.py", FILES)
        for path in FILES:
            self.assertRegex(path.name, "^[a-z_]+[.]py$")
            text = path.read_text()
            self.assertLessEqual(len(text.splitlines()), 399, path)
            self.assertEqual([line for line in text.splitlines() if len(line) > 120], [], path)
            self.assertEqual({sign for sign in text if not (" " <= sign <= "~" or sign == "\n")}, set(), path)

    def test_functions_are_short(self):
        for path, _, found in trees():
            for node in found:
                if isinstance(node, ast.FunctionDef):
                    self.assertLessEqual(node.end_lineno - node.lineno + 1, 40, (path, node.name))

    def test_imports(self):
        defined = {path.stem: ast.parse(path.read_text()).body for path in FILES}
        for path, tree, found in trees():
            imports = [node for node in found if isinstance(node, (ast.Import, ast.ImportFrom))]
            head = [node for node in tree.body if not isinstance(node, ast.Expr)][:len(imports)]
            self.assertEqual(imports, head, path)
            for node in imports:
                self.assertIsInstance(node, ast.ImportFrom, path)
                package, _, file = node.module.partition(".")
                self.assertEqual((package, node.level), ("hookcheck", 0), path)
                own = [one.name for one in defined[file] if isinstance(one, (ast.FunctionDef, ast.ClassDef))]
                own += [one.targets[0].id for one in defined[file] if isinstance(one, ast.Assign)]
                self.assertLessEqual({alias.name for alias in node.names}, set(own), path)

    def test_no_circle_of_imports(self):
        needs = {}
        for path, _, found in trees():
            needs[path.stem] = {
                node.module.partition(".")[2] for node in found if isinstance(node, ast.ImportFrom)
            }
        while needs:
            free = [file for file in needs if not needs[file] & set(needs)]
            self.assertNotEqual(free, [], needs)
            needs = {file: needs[file] for file in needs if file not in free}

    def test_module_level(self):
        for path, tree, _ in trees():
            for node in tree.body:
                if isinstance(node, ast.Expr):
                    self.assertIsInstance(node.value, ast.Constant, path)
                elif isinstance(node, ast.Assign):
                    ast.literal_eval(node.value)
                else:
                    self.assertIsInstance(node, (ast.ImportFrom, ast.FunctionDef, ast.ClassDef), path)

    def test_statements_and_values(self):
        for path, _, found in trees():
            for node in found:
                self.assertNotIsInstance(node, STATEMENTS, path)
                if isinstance(node, ast.Constant):
                    self.assertNotIsInstance(node.value, (float, complex), path)
                    if isinstance(node.value, str):
                        self.assertNotIn("%", node.value, path)
                if isinstance(node, (ast.FunctionDef, ast.ClassDef)):
                    told = {ast.unparse(one).partition(".")[0] for one in node.decorator_list}
                    self.assertTrue(told <= DECORATORS or told == {node.name}, (path, node.name))

    def test_names(self):
        known = set(dir(builtins))
        for path, _, found in trees():
            bound = set(bound_names(found))
            methods = {
                one.name for node in found if isinstance(node, ast.ClassDef)
                for one in node.body if isinstance(one, ast.FunctionDef)
            }
            self.assertEqual(bound & BARRED, set(), path)
            self.assertEqual((bound - methods) & known, set(), path)
            read = {node.id for node in found if isinstance(node, ast.Name) and isinstance(node.ctx, ast.Load)}
            self.assertLessEqual(read & known, CALLED, path)

    def test_methods(self):
        own = {node.name for _, _, found in trees() for node in found if isinstance(node, ast.FunctionDef)}
        for path, _, found in trees():
            for node in found:
                if isinstance(node, ast.Call) and isinstance(node.func, ast.Attribute):
                    self.assertIn(node.func.attr, METHODS | own, path)


    def test_names_of_methods_properties_and_attributes(self):
        plain, decorated, attributes = set(), set(), set()
        for _, _, found in trees():
            for node in found:
                if isinstance(node, ast.ClassDef):
                    for one in node.body:
                        if isinstance(one, ast.FunctionDef):
                            (decorated if one.decorator_list else plain).add(one.name)
                if isinstance(node, ast.Attribute) and isinstance(node.ctx, ast.Store):
                    attributes.add(node.attr)
        of_values = {name for one in (int, str, bytes, list, tuple, dict, set) for name in dir(one)}
        own = {name for name in plain | decorated if not name.startswith("__")}
        self.assertEqual(own & of_values, set())
        self.assertEqual(decorated & (plain | attributes), set())
        self.assertEqual(plain & attributes, set())


class InterfaceTest(unittest.TestCase):
    def test_functions_stand_in_their_files_with_their_arguments(self):
        for file, functions in INTERFACE.items():
            module = __import__(f"hookcheck.{file}", fromlist=["hookcheck"])
            for told in functions:
                function = getattr(module, told.partition("(")[0])
                self.assertEqual(function.__module__, f"hookcheck.{file}")
                self.assertEqual(function.__name__ + str(inspect.signature(function)), told)

    def test_classes_have_their_methods_themselves(self):
        for name, (file, made, properties, methods) in CLASSES.items():
            module = __import__(f"hookcheck.{file}", fromlist=["hookcheck"])
            own = getattr(module, name)
            self.assertEqual((own.__module__, str(inspect.signature(own))), (f"hookcheck.{file}", made))
            for told in properties:
                self.assertIsInstance(vars(own)[told], property)
            for told in methods:
                method = vars(own)[told.partition("(")[0]]
                function = method.__func__ if isinstance(method, classmethod) else method
                self.assertEqual(function.__name__ + str(inspect.signature(function)), told)

    def test_errors_stand_in_their_file(self):
        module = __import__("hookcheck.errors", fromlist=["hookcheck"])
        for name in ("HookcheckError", "NodesError", "ReadError", "UnknownHook", "ScopeError", "Misfit", "NotParts",
                     "NotSamples", "TooMany", "Broken", "NothingToUndo"):
            self.assertEqual(getattr(module, name).__module__, "hookcheck.errors")


if __name__ == "__main__":
    unittest.main()

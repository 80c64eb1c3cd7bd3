"""The rules of the language that a test can see, and the names of the interface in their files."""

import ast
import builtins
import inspect
import pathlib
import unittest

import toldatlast
from toldatlast import compare, errors, hidden, programs, readings, runners, texts, trees

FOLDER = pathlib.Path(toldatlast.__file__).parent
FILES = sorted(FOLDER.glob("*.py"))
LIBRARY = {"heapq", "math", "itertools", "collections", "__future__"}
BUILTINS = {
    "len", "range", "enumerate", "zip", "min", "max", "sum", "abs", "sorted", "reversed", "int", "str", "bool", "list",
    "tuple", "dict", "set", "isinstance", "ord", "repr", "any", "all", "divmod", "ValueError", "KeyError", "super",
}
METHODS = {"append", "extend", "get", "copy", "pop", "index", "count", "items", "keys", "values", "join", "split",
           "startswith", "endswith", "partition", "strip", "find", "insert", "remove", "replace"}
FORBIDDEN = (ast.AsyncFunctionDef, ast.Global, ast.Nonlocal, ast.Await, ast.GeneratorExp, ast.Div, ast.AnnAssign,
             ast.Yield, ast.YieldFrom, ast.Lambda)
INTERFACE = {
    programs: {"Program": ["row"]},
    trees: {"ordered_tree": ["program"], "tree": ["program"], "walk": ["told", "lot"], "judge": ["program", "told"],
            "leaves": ["told"]},
    compare: {"exchangeable": ["one", "other"], "alike": ["one", "other"], "first_unlike": ["one", "other"],
              "needless": ["program"], "may_change_places": ["program", "place"], "minded": ["program"]},
    hidden: {"first_hidden": ["program", "name"], "hidden_steps": ["program"], "chains": ["program"],
             "mends": ["program"], "with_changes": ["program", "places"]},
    runners: {"Runner": ["program"], "CarefulRunner": ["program"]},
    texts: {"show_program": ["program"], "show_told": ["told"]},
    readings: {"read_program": ["text"], "read_told": ["text"]},
    errors: {"TellError": ["value"]},
}
METHODS_OF = {
    programs.Program: {"tells": ["self", "lot"], "run": ["self", "lot"], "at": ["self", "place"],
                       "without": ["self", "place"], "__len__": ["self"], "__eq__": ["self", "other"]},
    runners.Runner: {"__init__": ["self", "program"], "__call__": ["self", "fails"], "handled": ["self"],
                     "undo": ["self"], "__len__": ["self"], "__eq__": ["self", "other"]},
    runners.CarefulRunner: {"__init__": ["self", "program"], "__call__": ["self", "fails"],
                            "__eq__": ["self", "other"]},
}
PROPERTIES_OF = {programs.Program: ["row", "steps", "names"], runners.Runner: ["asks", "told", "lot", "done"]}


class LanguageTest(unittest.TestCase):
    def nodes(self):
        for path in FILES:
            for node in ast.walk(ast.parse(path.read_text())):
                yield path.name, node

    def test_files(self):
        for path in FOLDER.iterdir():
            self.assertTrue(path in FILES or path.name == "__pycache__", path)
        for path in FILES:
            text = path.read_text()
            lines = text.split("\n")
            self.assertLessEqual(len(lines), 399, path)
            for line in lines:
                self.assertLessEqual(len(line), 120, (path, line))
                self.assertTrue(all(" " <= sign <= "~" for sign in line), (path, line))

    def test_functions_are_small(self):
        for name, node in self.nodes():
            if isinstance(node, ast.FunctionDef):
                self.assertLessEqual(node.end_lineno - node.lineno + 1, 40, (name, node.name))

    def test_nothing_that_is_not_allowed(self):
        for name, node in self.nodes():
            self.assertNotIsInstance(node, FORBIDDEN, (name, getattr(node, "lineno", 0)))
            if isinstance(node, ast.Constant):
                self.assertNotIsInstance(node.value, (float, complex))
                self.assertNotIn("%", str(node.value))
            if isinstance(node, ast.FunctionDef):
                self.assertLessEqual({ast.unparse(each) for each in node.decorator_list}, {"property"})

    def test_attributes_have_names_of_their_own(self):
        taken = {name for names in PROPERTIES_OF.values() for name in names}
        methods = {node.name for _, node in self.nodes() if isinstance(node, ast.FunctionDef)}
        for name, node in self.nodes():
            if isinstance(node, ast.Attribute) and isinstance(node.ctx, ast.Store):
                self.assertNotIn(node.attr, taken | methods, name)

    def test_imports(self):
        for name, node in self.nodes():
            self.assertNotIsInstance(node, ast.Import, name)
            if isinstance(node, ast.ImportFrom):
                self.assertEqual(node.level, 0)
                self.assertIn(node.module.split(".")[0], LIBRARY | {"toldatlast"})
                self.assertTrue(all(each.asname is None and each.name != "*" for each in node.names))

    def test_builtins_and_methods(self):
        own = {node.name for _, node in self.nodes() if isinstance(node, ast.FunctionDef)}
        for name, node in self.nodes():
            if isinstance(node, ast.Name) and node.id != "_" and hasattr(builtins, node.id):
                self.assertIsInstance(node.ctx, ast.Load, (name, node.id))
                self.assertIn(node.id, BUILTINS | {"property"}, name)
            if isinstance(node, ast.arg):
                self.assertFalse(hasattr(builtins, node.arg), (name, node.arg))
            if isinstance(node, ast.Call) and isinstance(node.func, ast.Attribute):
                self.assertIn(node.func.attr, METHODS | own, name)


class InterfaceTest(unittest.TestCase):
    def test_names_and_arguments(self):
        for module, names in INTERFACE.items():
            for name, arguments in names.items():
                found = getattr(module, name)
                self.assertEqual(found.__module__, module.__name__)
                self.assertEqual(list(inspect.signature(found).parameters), arguments)

    def test_the_methods_stand_in_the_class(self):
        for made, methods in METHODS_OF.items():
            for name, arguments in methods.items():
                self.assertEqual(list(inspect.signature(vars(made)[name]).parameters), arguments)
        for made, names in PROPERTIES_OF.items():
            for name in names:
                self.assertIsInstance(vars(made)[name], property)


if __name__ == "__main__":
    unittest.main()

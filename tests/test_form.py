"""The interface as the document lists it, and the form of the package's code."""

import ast
import builtins
import os
import unittest

PACKAGE = os.path.join(os.path.dirname(os.path.dirname(os.path.abspath(__file__))), "surfacehall")
HOUSE = {
    "__init__": ["wide", "high"], "join": [], "clients": [], "tell": ["client", "letter"], "take": ["client"],
    "rest": [], "letters": ["client"], "fall": ["client"], "standing": [], "beat": [], "screen": [],
    "heard": ["client"], "touch": ["what"], "key": ["number"],
}
FUNCTIONS = {
    "alone.py": {"at_rest": ["wide", "high", "books"]},
    "notes.py": {"written": ["books"], "read": ["text"]},
}
ERRORS = ("HallError", "BadSize", "TooMany", "NoClient", "BadLetter", "BadTouch", "BadKey", "BadText")
ALLOWED = (
    "len range enumerate zip min max sum abs sorted reversed int str bool list tuple dict set isinstance ord repr any "
    "all divmod Exception ValueError super"
).split()
FILES = sorted(name for name in os.listdir(PACKAGE) if name != "__pycache__")


def source(name):
    with open(os.path.join(PACKAGE, name), encoding="utf-8") as file:
        return file.read()


def tree(name):
    return ast.parse(source(name))


def nodes(name, *kinds):
    return [node for node in ast.walk(tree(name)) if isinstance(node, kinds)]


def classes(name):
    return {node.name: node for node in tree(name).body if isinstance(node, ast.ClassDef)}


class Interface(unittest.TestCase):
    def test_errors(self):
        self.assertEqual(sorted(classes("errors.py")), sorted(ERRORS))

    def test_house(self):
        methods = {
            node.name: [each.arg for each in node.args.args[1:]]
            for node in classes("house.py")["House"].body
            if isinstance(node, ast.FunctionDef)
        }
        for name, handed in HOUSE.items():
            self.assertEqual(methods.get(name), handed, name)

    def test_functions(self):
        for file, functions in FUNCTIONS.items():
            found = {
                node.name: [each.arg for each in node.args.args]
                for node in tree(file).body
                if isinstance(node, ast.FunctionDef)
            }
            for name, handed in functions.items():
                self.assertEqual(found.get(name), handed, name)


class Form(unittest.TestCase):
    def test_files(self):
        for name in FILES:
            self.assertRegex(name, r"^[a-z_]+\.py$")
        self.assertIn("__init__.py", FILES)

    def test_lines(self):
        for name in FILES:
            text = source(name)
            self.assertRegex(text, r"\A[ -~\n]*\Z", name)
            self.assertTrue(text.endswith("\n"), name)
            lines = text.split("\n")
            self.assertLess(len(lines), 400, name)
            self.assertLessEqual(max(len(line) for line in lines), 120, name)

    def test_functions_are_small(self):
        for name in FILES:
            for node in nodes(name, ast.FunctionDef):
                self.assertLessEqual(node.end_lineno - node.lineno + 1, 40, (name, node.name))
                self.assertEqual(node.decorator_list, [], (name, node.name))

    def test_everything_has_a_docstring(self):
        for name in FILES:
            self.assertIsNotNone(ast.get_docstring(tree(name)), name)
            for node in nodes(name, ast.ClassDef, ast.FunctionDef):
                if not node.name.startswith("_"):
                    self.assertIsNotNone(ast.get_docstring(node), (name, node.name))

    def test_imports_are_of_the_package_alone_and_go_one_way(self):
        above = {}
        for name in FILES:
            self.assertEqual(nodes(name, ast.Import), [], name)
            imports = nodes(name, ast.ImportFrom)
            above[name] = [node.module.split(".")[-1] + ".py" for node in imports]
            for node in imports:
                self.assertEqual((node.module.split(".")[0], node.level), ("surfacehall", 0), name)
        while above:
            free = [name for name in above if not any(other in above for other in above[name])]
            self.assertTrue(free, above)
            for name in free:
                del above[name]

    def test_builtins(self):
        for name in FILES:
            for node in nodes(name, ast.Name):
                if hasattr(builtins, node.id):
                    self.assertIn(node.id, ALLOWED, name)

    def test_statements_and_values_that_are_not_used(self):
        for name in FILES:
            found = nodes(name, ast.Global, ast.AsyncFunctionDef, ast.Await, ast.Div, ast.Set, ast.SetComp)
            self.assertEqual(found, [], name)
            for node in nodes(name, ast.Constant):
                self.assertNotIsInstance(node.value, (float, complex, bytes), name)

    def test_is_stands_beside_none_alone(self):
        for name in FILES:
            for node in nodes(name, ast.Compare):
                if isinstance(node.ops[0], (ast.Is, ast.IsNot)):
                    self.assertIsNone(node.comparators[0].value, name)

    def test_module_level(self):
        for name in FILES:
            for node in tree(name).body[1:]:
                self.assertIsInstance(node, (ast.ImportFrom, ast.FunctionDef, ast.ClassDef, ast.Assign), name)

    def test_no_name_is_both_a_method_and_an_attribute(self):
        methods, attributes = set(), set()
        for name in FILES:
            for kind in classes(name).values():
                methods.update(node.name for node in kind.body if isinstance(node, ast.FunctionDef))
            attributes.update(node.attr for node in nodes(name, ast.Attribute) if isinstance(node.ctx, ast.Store))
        self.assertEqual(methods & attributes, set())

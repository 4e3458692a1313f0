"""The interface as it is written, and the rules of LANGUAGE.md that can be counted."""

import ast
import builtins
import importlib
import inspect
import pathlib
import re
import unittest

PACKAGE = pathlib.Path(__file__).resolve().parent.parent / "openfrozen"
INTERFACE = {
    "openfrozen.webs": {
        "is_web": ["value"], "is_path": ["value"], "is_script": ["value"], "look": ["web", "path"],
        "place": ["web", "path"], "reachable": ["web", "name"], "trimmed": ["web"],
    },
    "openfrozen.scripts": {"run": ["web", "script"]},
    "openfrozen.least": {
        "least": ["web"], "same": ["web", "other"], "match": ["web", "other"], "is_match": ["web", "other", "value"],
        "difference": ["web", "other"],
    },
    "openfrozen.sharing": {
        "shared": ["web", "name", "other"], "independent": ["web", "name", "other"], "witness": ["web", "name", "other"],
        "separated": ["web", "name"],
    },
    "openfrozen.talks": {"taken_back": ["web", "script"], "heard": ["web", "name", "other"]},
}
# L6 and L7: statements and values that the subset leaves out, as far as their form alone tells.
BARRED = (ast.AsyncFunctionDef, ast.AsyncFor, ast.AsyncWith, ast.Await, ast.Global, ast.TryStar, ast.Div)
# L25: the methods of builtin values that the package may use.
METHODS = "append clear copy count extend get index insert items join keys pop remove reverse setdefault update values"
CALLED = ("len range enumerate zip min max sum abs sorted reversed int str bool list tuple dict set isinstance ord "
          "repr any all divmod super").split()


def files():
    return sorted(PACKAGE.rglob("*.py"))


def trees():
    """Return each file's path with its syntax tree."""
    return [(path, ast.parse(path.read_text(encoding="utf-8"))) for path in files()]


def function_nodes(tree):
    return [node for node in ast.walk(tree) if isinstance(node, ast.FunctionDef)]


def bound_names(tree):
    """Return the names that a file gives to variables, functions, classes and parameters."""
    found = [node.id for node in ast.walk(tree) if isinstance(node, ast.Name) and isinstance(node.ctx, ast.Store)]
    found += [node.arg for node in ast.walk(tree) if isinstance(node, ast.arg)]
    found += [node.name for node in ast.walk(tree) if isinstance(node, (ast.FunctionDef, ast.ClassDef))]
    return found


class Interface(unittest.TestCase):
    def test_functions_with_their_parameters(self):
        for module, functions in INTERFACE.items():
            for name, parameters in functions.items():
                with self.subTest(module=module, name=name):
                    function = getattr(importlib.import_module(module), name)
                    told = inspect.signature(function).parameters.values()
                    self.assertEqual([one.name for one in told], parameters)
                    self.assertTrue(all(one.kind == one.POSITIONAL_OR_KEYWORD for one in told))
                    self.assertTrue(all(one.default is one.empty for one in told))

    def test_functions_are_defined_in_their_files(self):
        for module, functions in INTERFACE.items():
            tree = ast.parse((PACKAGE / (module.split(".")[1] + ".py")).read_text(encoding="utf-8"))
            defined = [node.name for node in tree.body if isinstance(node, ast.FunctionDef)]
            for name in functions:
                self.assertEqual(defined.count(name), 1, name)

    def test_init_is_empty(self):
        self.assertEqual((PACKAGE / "__init__.py").read_bytes(), b"")


class Language(unittest.TestCase):
    def test_nothing_but_files_of_the_language(self):
        others = [path for path in PACKAGE.rglob("*") if path.suffix != ".py" and "__pycache__" not in path.parts]
        self.assertEqual(others, [])

    def test_signs_and_lengths(self):
        for path in files():
            text = path.read_text(encoding="utf-8")
            lines = text.split("\n")
            self.assertTrue(all(" " <= sign <= "~" or sign == "\n" for sign in text), path)
            self.assertLessEqual(len(lines), 400, path)
            self.assertLessEqual(max(map(len, lines)), 120, path)

    def test_functions_are_short(self):
        for path, tree in trees():
            for node in function_nodes(tree):
                self.assertLessEqual(node.end_lineno - node.lineno + 1, 40, (path, node.name))

    def test_imports(self):
        for path, tree in trees():
            imports = [node for node in ast.walk(tree) if isinstance(node, (ast.Import, ast.ImportFrom))]
            first = [node for node in tree.body if isinstance(node, ast.ImportFrom)]
            self.assertEqual(len(imports), len(first), path)
            for node in first:
                self.assertTrue(node.module.startswith("openfrozen."), path)
                self.assertEqual(node.level, 0, path)
                source = ast.parse((PACKAGE / (node.module.split(".")[1] + ".py")).read_text(encoding="utf-8"))
                for alias in node.names:
                    self.assertIn(alias.name, bound_names(source), path)

    def test_no_rings_of_imports(self):
        wants = {path.stem: {node.module.split(".")[1] for node in tree.body if isinstance(node, ast.ImportFrom)}
                 for path, tree in trees()}
        while wants:
            free = [name for name, others in wants.items() if not others & set(wants)]
            self.assertTrue(free, wants)
            wants = {name: others for name, others in wants.items() if name not in free}

    def test_names(self):
        for path, tree in trees():
            for name in bound_names(tree):
                self.assertNotIn(name, dir(builtins), path)
                self.assertTrue(name == "__init__" or not name.startswith("__"), (path, name))
                self.assertNotIn(name, ["mro", "elements", "law", "register", "compile", "help", "os", "sys"], path)

    def test_statements_and_values(self):
        for path, tree in trees():
            for node in ast.walk(tree):
                self.assertNotIsInstance(node, BARRED, path)
                self.assertFalse(isinstance(node, ast.Constant) and isinstance(node.value, float), path)
                self.assertFalse(isinstance(node, ast.GeneratorExp), path)

    def test_builtins_that_are_called(self):
        for path, tree in trees():
            used = [node.id for node in ast.walk(tree) if isinstance(node, ast.Name) and hasattr(builtins, node.id)]
            for name in used:
                self.assertIn(name, CALLED + ["ValueError"], path)

    def test_methods_that_are_called(self):
        for path, tree in trees():
            for node in ast.walk(tree):
                if isinstance(node, ast.Call) and isinstance(node.func, ast.Attribute):
                    name = node.func.attr
                    self.assertTrue(name in METHODS.split() or path.stem == "errors" and name == "__init__", (path, name))

    def test_sets_are_used_on_the_spot(self):
        for path, tree in trees():
            allowed = []
            for node in ast.walk(tree):
                if isinstance(node, ast.Call) and isinstance(node.func, ast.Name) and node.func.id in ("sorted", "len"):
                    allowed += node.args
                if isinstance(node, ast.Compare):
                    allowed += [node.left] + node.comparators
            for node in ast.walk(tree):
                call = isinstance(node, ast.Call) and isinstance(node.func, ast.Name) and node.func.id == "set"
                if call or isinstance(node, (ast.Set, ast.SetComp)):
                    self.assertIn(node, allowed, (path, node.lineno))

    def test_is_stands_beside_constants(self):
        for path, tree in trees():
            for node in ast.walk(tree):
                if isinstance(node, ast.Compare) and isinstance(node.ops[0], (ast.Is, ast.IsNot)):
                    self.assertIsInstance(node.comparators[0], ast.Constant, (path, node.lineno))

    def test_no_local_name_is_an_import(self):
        for path, tree in trees():
            imports = {alias.name for node in tree.body if isinstance(node, ast.ImportFrom) for alias in node.names}
            for node in function_nodes(tree):
                self.assertEqual(imports & set(bound_names(node)), set(), (path, node.name))

    def test_module_level(self):
        for path, tree in trees():
            names = [alias.name for node in tree.body if isinstance(node, ast.ImportFrom) for alias in node.names]
            for node in tree.body:
                docstring = isinstance(node, ast.Expr) and isinstance(node.value, ast.Constant)
                kinds = (ast.ImportFrom, ast.FunctionDef, ast.ClassDef, ast.Assign)
                self.assertTrue(docstring or isinstance(node, kinds), path)
                if isinstance(node, ast.Assign):
                    ast.literal_eval(node.value)
                    names.append(node.targets[0].id)
                elif isinstance(node, (ast.FunctionDef, ast.ClassDef)):
                    names.append(node.name)
            self.assertEqual(len(names), len(set(names)), path)

    def test_strings(self):
        for path, tree in trees():
            self.assertEqual(re.findall(r"\\(?![nt\\\"'])", path.read_text(encoding="utf-8")), [], path)
            for node in ast.walk(tree):
                if isinstance(node, ast.Constant) and isinstance(node.value, str):
                    self.assertNotIn("%", node.value, path)

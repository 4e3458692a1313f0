"""The interface as it is written, and the rules of LANGUAGE.md that can be counted."""

import ast
import builtins
import importlib
import inspect
import pathlib
import re
import unittest

PACKAGE = pathlib.Path(__file__).resolve().parent.parent / "openfrozen"
INTERFACE = {
    "openfrozen.webs": {
        "is_web": ["value"], "is_path": ["value"], "is_script": ["value"], "look": ["web", "path"],
        "place": ["web", "path"], "reachable": ["web", "name"], "trimmed": ["web"],
    },
    "openfrozen.scripts": {"run": ["web", "script"]},
    "openfrozen.least": {
        "least": ["web"], "same": ["web", "other"], "match": ["web", "other"], "is_match": ["web", "other", "value"],
        "difference": ["web", "other"],
    },
    "openfrozen.sharing": {
        "shared": ["web", "name", "other"], "independent": ["web", "name", "other"], "witness": ["web", "name", "other"],
        "separated": ["web", "name"],
    },
    "openfrozen.talks": {"taken_back": ["web", "script"], "heard": ["web", "name", "other"]},
    "openfrozen.copies": {
        "copied": ["web", "name", "path"], "deep_copied": ["web", "name", "path"], "frozen": ["web", "path"],
        "version": ["web", "name", "path", "value"],
    },
    "openfrozen.texts": {"write": ["web"], "read": ["text"]},
}
# The classes of openfrozen/runner.py: their bases, methods with parameters, and properties.
CLASSES = {
    "Runner": (["object"], {
        "__init__": ["self", "web"], "of_text": ["cls", "text"], "do": ["self", "statement"], "run": ["self", "script"],
        "undo": ["self"], "paths": ["self", "length"], "__eq__": ["self", "other"], "__len__": ["self"],
        "__contains__": ["self", "x"], "__getitem__": ["self", "at"], "__iter__": ["self"],
    }, ["web", "names"]),
    "StillRunner": (["Runner"], {"__init__": ["self", "web"]}, ["refusals"]),
}
# L6 and L7: statements and values that the subset leaves out, as far as their form alone tells.
BARRED = (ast.AsyncFunctionDef, ast.AsyncFor, ast.AsyncWith, ast.Await, ast.Global, ast.TryStar, ast.Div)
# L25: the methods of builtin values that the package may use.
METHODS = ("append clear copy count extend get index insert items join keys pop remove reverse setdefault update values "
           "partition removeprefix split startswith").split()
CALLED = ("len range enumerate zip min max sum abs sorted reversed int str bool list tuple dict set isinstance ord "
          "repr any all divmod super").split()
# L5: the double-underscore methods that the package has, and what must not happen in what an operator calls.
DUNDERS = ["__init__", "__eq__", "__len__", "__contains__", "__getitem__", "__iter__"]
CHANGES = "append clear extend insert pop remove reverse setdefault update add discard sort".split()


def files():
    return sorted(PACKAGE.rglob("*.py"))


def trees():
    """Return each file's path with its syntax tree."""
    return [(path, ast.parse(path.read_text(encoding="utf-8"))) for path in files()]


def function_nodes(tree):
    return [node for node in ast.walk(tree) if isinstance(node, ast.FunctionDef)]


def operators():
    """Return the functions and methods that an operator or a property of a class runs, and all that they call."""
    functions = {node.name: node for _, tree in trees() for node in tree.body if isinstance(node, ast.FunctionDef)}
    waiting = []
    for _, tree in trees():
        for node in tree.body:
            if isinstance(node, ast.ClassDef):
                waiting += [method for method in function_nodes(node) if method.name in DUNDERS[1:] or is_property(method)]
    found = []
    while waiting:
        node = waiting.pop()
        if node not in found:
            found.append(node)
            waiting += [functions[name] for name in called_names(node) if name in functions]
    return found


def is_property(node):
    return [decorator.id for decorator in node.decorator_list] == ["property"]


def called_names(node):
    return [call.func.id for call in ast.walk(node) if isinstance(call, ast.Call) and isinstance(call.func, ast.Name)]


def made_names(node):
    """Return the local names of a function that are assigned nothing but lists and dicts that it makes there."""
    made, others = set(), {arg.arg for arg in node.args.args}
    for part in ast.walk(node):
        if isinstance(part, ast.Assign) and isinstance(part.targets[0], ast.Name):
            new = isinstance(part.value, (ast.List, ast.Dict, ast.ListComp, ast.DictComp))
            call = isinstance(part.value, ast.Call) and isinstance(part.value.func, ast.Name)
            new = new or call and part.value.func.id in ("list", "dict", "sorted")
            (made if new else others).add(part.targets[0].id)
        elif isinstance(part, (ast.For, ast.comprehension)):
            others |= {name.id for name in ast.walk(part.target) if isinstance(name, ast.Name)}
    return made - others


def bound_names(tree):
    """Return the names that a file gives to variables, functions, classes and parameters."""
    found = [node.id for node in ast.walk(tree) if isinstance(node, ast.Name) and isinstance(node.ctx, ast.Store)]
    found += [node.arg for node in ast.walk(tree) if isinstance(node, ast.arg)]
    found += [node.name for node in ast.walk(tree) if isinstance(node, (ast.FunctionDef, ast.ClassDef))]
    return found


class Interface(unittest.TestCase):
    def test_functions_with_their_parameters(self):
        for module, functions in INTERFACE.items():
            for name, parameters in functions.items():
                with self.subTest(module=module, name=name):
                    function = getattr(importlib.import_module(module), name)
                    told = inspect.signature(function).parameters.values()
                    self.assertEqual([one.name for one in told], parameters)
                    self.assertTrue(all(one.kind == one.POSITIONAL_OR_KEYWORD for one in told))
                    self.assertTrue(all(one.default is one.empty for one in told))

    def test_classes_with_their_methods(self):
        module = importlib.import_module("openfrozen.runner")
        for name, (bases, methods, properties) in CLASSES.items():
            kind = getattr(module, name)
            self.assertEqual([base.__name__ for base in kind.__bases__], bases)
            self.assertEqual([kind.__module__, kind.__name__], ["openfrozen.runner", name])
            for method, parameters in methods.items():
                with self.subTest(kind=name, method=method):
                    found = vars(kind)[method]
                    function = found.__func__ if isinstance(found, classmethod) else found
                    self.assertEqual(isinstance(found, classmethod), method == "of_text")
                    told = inspect.signature(function).parameters.values()
                    self.assertEqual([one.name for one in told], parameters)
                    self.assertTrue(all(one.default is one.empty for one in told))
            for word in properties:
                self.assertIsInstance(vars(kind)[word], property)
        self.assertEqual(vars(module.Runner)["MOST"], 30)

    def test_functions_are_defined_in_their_files(self):
        for module, functions in INTERFACE.items():
            tree = ast.parse((PACKAGE / (module.split(".")[1] + ".py")).read_text(encoding="utf-8"))
            defined = [node.name for node in tree.body if isinstance(node, ast.FunctionDef)]
            for name in functions:
                self.assertEqual(defined.count(name), 1, name)

    def test_init_is_empty(self):
        self.assertEqual((PACKAGE / "__init__.py").read_bytes(), b"")


class Language(unittest.TestCase):
    def test_nothing_but_files_of_the_language(self):
        others = [path for path in PACKAGE.rglob("*") if path.suffix != ".py" and "__pycache__" not in path.parts]
        self.assertEqual(others, [])

    def test_signs_and_lengths(self):
        for path in files():
            text = path.read_text(encoding="utf-8")
            lines = text.split("\n")
            self.assertTrue(all(" " <= sign <= "~" or sign == "\n" for sign in text), path)
            self.assertLessEqual(len(lines), 400, path)
            self.assertLessEqual(max(map(len, lines)), 120, path)

    def test_functions_are_short(self):
        for path, tree in trees():
            for node in function_nodes(tree):
                self.assertLessEqual(node.end_lineno - node.lineno + 1, 40, (path, node.name))

    def test_imports(self):
        for path, tree in trees():
            imports = [node for node in ast.walk(tree) if isinstance(node, (ast.Import, ast.ImportFrom))]
            first = [node for node in tree.body if isinstance(node, ast.ImportFrom)]
            self.assertEqual(len(imports), len(first), path)
            for node in first:
                self.assertTrue(node.module.startswith("openfrozen."), path)
                self.assertEqual(node.level, 0, path)
                source = ast.parse((PACKAGE / (node.module.split(".")[1] + ".py")).read_text(encoding="utf-8"))
                for alias in node.names:
                    self.assertIn(alias.name, bound_names(source), path)

    def test_no_rings_of_imports(self):
        wants = {path.stem: {node.module.split(".")[1] for node in tree.body if isinstance(node, ast.ImportFrom)}
                 for path, tree in trees()}
        while wants:
            free = [name for name, others in wants.items() if not others & set(wants)]
            self.assertTrue(free, wants)
            wants = {name: others for name, others in wants.items() if name not in free}

    def test_names(self):
        for path, tree in trees():
            for name in bound_names(tree):
                self.assertTrue(name == "_" or name not in dir(builtins), (path, name))
                self.assertTrue(name in DUNDERS or not name.startswith("__"), (path, name))
                self.assertNotIn(name, ["mro", "elements", "law", "register", "compile", "help", "os", "sys"], path)

    def test_statements_and_values(self):
        for path, tree in trees():
            for node in ast.walk(tree):
                self.assertNotIsInstance(node, BARRED, path)
                self.assertFalse(isinstance(node, ast.Constant) and isinstance(node.value, float), path)
                self.assertFalse(isinstance(node, ast.GeneratorExp), path)

    def test_builtins_that_are_called(self):
        for path, tree in trees():
            used = [node.id for node in ast.walk(tree) if isinstance(node, ast.Name) and hasattr(builtins, node.id)]
            for name in used:
                self.assertIn(name, CALLED + ["ValueError", "TypeError", "property", "classmethod", "_"], path)

    def test_the_name_of_one_underscore_is_not_read(self):
        for path, tree in trees():
            read = [node for node in ast.walk(tree) if isinstance(node, ast.Name) and isinstance(node.ctx, ast.Load)]
            self.assertNotIn("_", [node.id for node in read], path)

    def test_methods_that_are_called(self):
        own = [node.name for _, tree in trees() for part in ast.walk(tree) if isinstance(part, ast.ClassDef)
               for node in function_nodes(part)]
        for path, tree in trees():
            for node in ast.walk(tree):
                if isinstance(node, ast.Call) and isinstance(node.func, ast.Attribute):
                    self.assertIn(node.func.attr, METHODS + own, path)

    def test_operators_change_nothing(self):
        for node in operators():
            made = made_names(node)
            for part in ast.walk(node):
                with self.subTest(function=node.name, line=getattr(part, "lineno", None)):
                    if isinstance(part, ast.Attribute):
                        self.assertIsInstance(part.ctx, ast.Load)
                        self.assertTrue(part.attr not in CHANGES or part.value.id in made)
                    if isinstance(part, ast.Subscript) and not isinstance(part.ctx, ast.Load):
                        self.assertIn(part.value.id, made)
                    if isinstance(part, ast.AugAssign):
                        self.assertIsInstance(part.target, ast.Name)
                        self.assertIsInstance(part.value, ast.Constant)
                    self.assertNotIsInstance(part, (ast.Lambda, ast.Yield, ast.YieldFrom, ast.Nonlocal, ast.NamedExpr))

    def test_operators_call_nothing_that_they_are_passed(self):
        known = {node.name for _, tree in trees() for node in tree.body
                 if isinstance(node, (ast.FunctionDef, ast.ClassDef))}
        for node in operators():
            for name in called_names(node):
                self.assertIn(name, known | set(CALLED) | {"TypeError"}, node.name)
                self.assertNotIn(name, {arg.arg for arg in node.args.args}, node.name)
            for part in ast.walk(node):
                if isinstance(part, ast.Call) and not isinstance(part.func, ast.Name):
                    self.assertIn(part.func.attr, METHODS, node.name)

    def test_operators_have_their_forms(self):
        for path, tree in trees():
            for kind in [node for node in ast.walk(tree) if isinstance(node, ast.ClassDef)]:
                methods = {node.name: node for node in kind.body if isinstance(node, ast.FunctionDef)}
                if "__getitem__" in methods:
                    self.assertEqual(ast.unparse(methods["__iter__"].body[0]).split("(")[0], "raise TypeError")
                if "__eq__" in methods:
                    self.assertTrue(ast.unparse(methods["__eq__"].body[0]).startswith(
                        f"return isinstance(other, {kind.name}) and "))
                if "__len__" in methods:
                    self.assertTrue(ast.unparse(methods["__len__"].body[-1]).startswith("return len("))
                for node in methods.values():
                    if node.name == "__init__":
                        self.assertFalse([part for part in ast.walk(node) if isinstance(part, ast.Return)], path)

    def test_generators_are_not_kept(self):
        generators = {node.name for _, tree in trees() for node in function_nodes(tree)
                      if any(isinstance(part, (ast.Yield, ast.YieldFrom)) for part in ast.walk(node))}
        names = [node.name for _, tree in trees() for node in function_nodes(tree)]
        for name in generators:
            self.assertEqual(names.count(name), 1)
            self.assertNotIn(name, METHODS)
        for path, tree in trees():
            for node in ast.walk(tree):
                if isinstance(node, ast.Call):
                    name = node.func.attr if isinstance(node.func, ast.Attribute) else node.func.id
                    self.assertNotIn(name, generators, path)

    def test_class_values_are_plain(self):
        for path, tree in trees():
            for kind in [node for node in ast.walk(tree) if isinstance(node, ast.ClassDef)]:
                for node in kind.body:
                    if isinstance(node, ast.Assign):
                        ast.literal_eval(node.value)
                    else:
                        docstring = isinstance(node, ast.Expr) and isinstance(node.value, ast.Constant)
                        self.assertTrue(docstring or isinstance(node, ast.FunctionDef), path)

    def test_sets_are_used_on_the_spot(self):
        for path, tree in trees():
            allowed = []
            for node in ast.walk(tree):
                if isinstance(node, ast.Call) and isinstance(node.func, ast.Name) and node.func.id in ("sorted", "len"):
                    allowed += node.args
                if isinstance(node, ast.Compare):
                    allowed += [node.left] + node.comparators
            for node in ast.walk(tree):
                call = isinstance(node, ast.Call) and isinstance(node.func, ast.Name) and node.func.id == "set"
                if call or isinstance(node, (ast.Set, ast.SetComp)):
                    self.assertIn(node, allowed, (path, node.lineno))

    def test_is_stands_beside_constants(self):
        for path, tree in trees():
            for node in ast.walk(tree):
                if isinstance(node, ast.Compare) and isinstance(node.ops[0], (ast.Is, ast.IsNot)):
                    self.assertIsInstance(node.comparators[0], ast.Constant, (path, node.lineno))

    def test_no_local_name_is_an_import(self):
        for path, tree in trees():
            imports = {alias.name for node in tree.body if isinstance(node, ast.ImportFrom) for alias in node.names}
            for node in function_nodes(tree):
                self.assertEqual(imports & set(bound_names(node)), set(), (path, node.name))

    def test_module_level(self):
        for path, tree in trees():
            names = [alias.name for node in tree.body if isinstance(node, ast.ImportFrom) for alias in node.names]
            for node in tree.body:
                docstring = isinstance(node, ast.Expr) and isinstance(node.value, ast.Constant)
                kinds = (ast.ImportFrom, ast.FunctionDef, ast.ClassDef, ast.Assign)
                self.assertTrue(docstring or isinstance(node, kinds), path)
                if isinstance(node, ast.Assign):
                    ast.literal_eval(node.value)
                    names.append(node.targets[0].id)
                elif isinstance(node, (ast.FunctionDef, ast.ClassDef)):
                    names.append(node.name)
            self.assertEqual(len(names), len(set(names)), path)

    def test_strings(self):
        for path, tree in trees():
            self.assertEqual(re.findall(r"\\(?![nt\\\"'])", path.read_text(encoding="utf-8")), [], path)
            for node in ast.walk(tree):
                if isinstance(node, ast.Constant) and isinstance(node.value, str):
                    self.assertNotIn("%", node.value, path)

"""The files of the package keep the plain subset of the language: what can be seen by a walk through the code."""

import ast
import builtins
import pathlib
import re
import unittest

ROOT = pathlib.Path(__file__).resolve().parent.parent / "eithershown"
ALLOWED_BUILTINS = set(
    "len range enumerate zip min max sum abs sorted reversed int str bool bytes list tuple dict set frozenset "
    "isinstance ord repr any all divmod pow getattr hasattr setattr iter next map Exception ValueError TypeError "
    "KeyError IndexError LookupError ZeroDivisionError ArithmeticError OverflowError RuntimeError "
    "NotImplementedError AttributeError StopIteration NotImplemented".split())
METHODS = set(
    "append clear copy count endswith extend find get index insert isalnum isalpha isdigit islower isspace isupper "
    "items join keys ljust lower lstrip partition pop remove replace reverse rfind rjust rpartition rsplit rstrip "
    "setdefault split splitlines startswith strip update upper values zfill bit_length add discard isascii".split())
BARRED = set(
    "register mro elements open input law version_info with_traceback add_note attrgetter breakpoint builtins "
    "compile copyright credits delattr dir eval exec exit gc globals help id importlib license locals methodcaller "
    "os quit super type vars sys".split())
BARRED_STRINGS = re.compile(r"\b(type|typing|enum|Enum|Flag|Generic|Protocol|ABC|namedtuple|dataclass)\b")
LIBRARY = {"heapq", "math", "itertools", "collections"}


def files():
    return sorted(ROOT.glob("*.py"))


def bound_names(function):
    """The parameters and local names of a function, without nested ones' own."""
    told = set()
    for node in ast.walk(function):
        if isinstance(node, ast.arg):
            told.add(node.arg)
        elif isinstance(node, ast.Name) and isinstance(node.ctx, ast.Store):
            told.add(node.id)
        elif isinstance(node, ast.ExceptHandler) and node.name:
            told.add(node.name)
        elif isinstance(node, ast.FunctionDef) and node is not function:
            told.add(node.name)
    return told


class LanguageTests(unittest.TestCase):
    def each(self):
        for path in files():
            text = path.read_text()
            yield path, text, ast.parse(text)

    def test_folder_has_python_files_alone(self):
        for path in ROOT.iterdir():
            if path.name != "__pycache__":
                self.assertRegex(path.name, r"^[a-z_][a-z0-9_]*\.py$")

    def test_is_with_three_values_alone(self):
        for path, _, tree in self.each():
            for node in ast.walk(tree):
                if isinstance(node, ast.Compare):
                    for sign, other in zip(node.ops, node.comparators):
                        if isinstance(sign, (ast.Is, ast.IsNot)):
                            self.assertTrue(isinstance(other, ast.Constant) and other.value in (None, True, False), (path, node.lineno))

    def test_methods_and_attributes(self):
        """No name is a method and an attribute of one class; no comparison reads one that is both in any classes."""
        methods, attributes, compared = {}, {}, set()
        for _, _, tree in self.each():
            for node in ast.walk(tree):
                if isinstance(node, ast.ClassDef):
                    methods.setdefault(node.name, set()).update(part.name for part in node.body if isinstance(part, ast.FunctionDef))
                    stored = {part.attr for part in ast.walk(node) if isinstance(part, ast.Attribute) and isinstance(part.ctx, ast.Store)}
                    attributes.setdefault(node.name, set()).update(stored)
                if isinstance(node, ast.FunctionDef) and node.name == "__eq__":
                    compared.update(part.attr for part in ast.walk(node) if isinstance(part, ast.Attribute))
        for name in methods:
            self.assertFalse(methods[name] & attributes[name], name)
        self.assertFalse(compared & set().union(*methods.values()) & set().union(*attributes.values()))

    def test_sizes_and_signs(self):
        for path, text, tree in self.each():
            lines = text.split("\n")
            self.assertLessEqual(len(lines) - 1, 399, path)
            for at, line in enumerate(lines):
                self.assertLessEqual(len(line), 120, (path, at + 1))
            self.assertTrue(set(text) <= {chr(k) for k in range(32, 127)} | {"\n"}, path)
            for node in ast.walk(tree):
                if isinstance(node, ast.FunctionDef):
                    self.assertLessEqual(node.end_lineno - node.lineno + 1, 40, (path, node.name))

    def test_module_level(self):
        plain = (ast.Import, ast.ImportFrom, ast.FunctionDef, ast.ClassDef)
        for path, text, tree in self.each():
            seen = []
            for at, node in enumerate(tree.body):
                if isinstance(node, ast.Assign):
                    self.assertEqual(len(node.targets), 1, path)
                    seen.append(node.targets[0].id)
                    for part in ast.walk(node.value):
                        self.assertNotIsInstance(part, (ast.Call, ast.ListComp, ast.Set), (path, node.lineno))
                elif isinstance(node, ast.Expr):
                    self.assertEqual(at, 0, path)
                else:
                    self.assertIsInstance(node, plain, (path, node.lineno))
                    if isinstance(node, (ast.FunctionDef, ast.ClassDef)):
                        seen.append(node.name)
                    if isinstance(node, ast.ImportFrom):
                        seen.extend([alias.name for alias in node.names])
            self.assertEqual(len(seen), len(set(seen)), path)

    def test_imports(self):
        graph = {}
        for path, text, tree in self.each():
            graph[path.stem] = set()
            for node in ast.walk(tree):
                self.assertNotIsInstance(node, ast.Import, path)
                if not isinstance(node, ast.ImportFrom) or node.module in LIBRARY:
                    continue
                package, _, name = node.module.partition(".")
                self.assertEqual((package, node.level), ("eithershown", 0), path)
                graph[path.stem].add(name)
                told = ast.parse((ROOT / (name + ".py")).read_text())
                defined = {part.name for part in told.body if isinstance(part, (ast.FunctionDef, ast.ClassDef))}
                defined |= {part.targets[0].id for part in told.body if isinstance(part, ast.Assign)}
                used = {part.id for part in ast.walk(tree) if isinstance(part, ast.Name)}
                for alias in node.names:
                    self.assertIsNone(alias.asname, path)
                    self.assertIn(alias.name, defined, path)
                    self.assertIn(alias.name, used, (path, "not used"))
        left = dict(graph)
        while left:
            ended = [name for name in left if not left[name] & set(left)]
            self.assertTrue(ended, f"a ring of imports in {sorted(left)}")
            for name in ended:
                del left[name]

    def test_no_barred_statements(self):
        barred = (ast.GeneratorExp, ast.Global, ast.AsyncFunctionDef, ast.Await, ast.Yield, ast.YieldFrom, ast.Div,
                  ast.Import, ast.Starred, ast.Pow, ast.Mod)
        for path, text, tree in self.each():
            for node in ast.walk(tree):
                at = (path, getattr(node, "lineno", None), type(node).__name__)
                self.assertNotIsInstance(node, barred, at)
                if isinstance(node, (ast.FunctionDef, ast.ClassDef)):
                    self.assertEqual(node.decorator_list, [], at)
                if isinstance(node, ast.Constant) and isinstance(node.value, str):
                    self.assertNotIn("%", node.value, at)
                    self.assertNotRegex(node.value, r"\.__?$", at)
                    self.assertNotRegex(node.value, r"^__.*__$", at)
                    self.assertNotRegex(node.value, BARRED_STRINGS, at)
                self.assertFalse(isinstance(node, ast.Constant) and isinstance(node.value, float), at)
                if isinstance(node, ast.ExceptHandler):
                    self.assertIsNotNone(node.type, at)

    def test_names(self):
        taken = set(dir(builtins))
        for path, text, tree in self.each():
            outer = set()
            for node in tree.body:
                if isinstance(node, ast.ImportFrom):
                    outer |= {alias.name for alias in node.names}
                elif isinstance(node, ast.ClassDef):
                    outer.add(node.name)
                elif isinstance(node, ast.FunctionDef):
                    self.assertNotIn(node.name, taken | BARRED, path)
            for node in ast.walk(tree):
                if isinstance(node, (ast.FunctionDef, ast.Lambda)):
                    told = bound_names(node)
                    self.assertFalse(told & (taken - {"_"}), (path, node.lineno, told & taken))
                    self.assertFalse(told & (outer | BARRED), (path, node.lineno, told & (outer | BARRED)))

    def test_calls(self):
        own = set()
        for path, text, tree in self.each():
            own |= {node.name for node in ast.walk(tree) if isinstance(node, ast.FunctionDef)}
        for path, text, tree in self.each():
            for node in ast.walk(tree):
                if isinstance(node, ast.Name) and node.id in dir(builtins):
                    self.assertIn(node.id, ALLOWED_BUILTINS, (path, node.lineno))
                if isinstance(node, ast.Call) and isinstance(node.func, ast.Attribute):
                    self.assertIn(node.func.attr, METHODS | own, (path, node.lineno))

    def test_methods_and_attributes_differ(self):
        for path, text, tree in self.each():
            for group in [node for node in tree.body if isinstance(node, ast.ClassDef)]:
                methods = [node.name for node in group.body if isinstance(node, ast.FunctionDef)]
                self.assertEqual(len(methods), len(set(methods)), (path, group.name))
                for node in ast.walk(group):
                    if isinstance(node, ast.Attribute) and isinstance(node.ctx, ast.Store):
                        self.assertNotIn(node.attr, methods, (path, group.name))

    def test_attributes_are_no_methods_of_builtin_values(self):
        free = {"count", "index", "title", "find", "get", "join", "lower", "upper", "split", "strip", "copy", "add"}
        barred = {name for made in (str, int, list, dict, set, bytes, tuple) for name in dir(made)} - free
        for path, text, tree in self.each():
            for node in ast.walk(tree):
                if isinstance(node, ast.Attribute) and isinstance(node.ctx, ast.Store):
                    self.assertNotIn(node.attr, barred | {"args", "elements", "open", "input"}, (path, node.lineno))
                if isinstance(node, ast.ClassDef):
                    for part in node.body:
                        if isinstance(part, ast.FunctionDef) and not part.name.startswith("__"):
                            self.assertNotIn(part.name, barred | BARRED, (path, part.lineno))

    def test_views_are_iterated_at_once(self):
        views = {"zip", "enumerate", "reversed", "range"}
        homes = {"list", "tuple", "dict", "sorted", "sum", "any", "all", "enumerate", "zip", "min", "max", "reversed",
                 "len", "permutations"}
        for path, text, tree in self.each():
            right = set()
            for node in ast.walk(tree):
                if isinstance(node, (ast.For, ast.comprehension)):
                    right.add(id(node.iter))
                if isinstance(node, ast.Call) and isinstance(node.func, ast.Name) and node.func.id in homes and node.args:
                    right.add(id(node.args[0]))
            for node in ast.walk(tree):
                if isinstance(node, ast.Call):
                    name = node.func.id if isinstance(node.func, ast.Name) else None
                    if isinstance(node.func, ast.Attribute) and node.func.attr in ("items", "keys", "values"):
                        name = "zip"
                    if name in views:
                        self.assertIn(id(node), right, (path, node.lineno))

    def test_sets_are_not_kept(self):
        for path, text, tree in self.each():
            right = set()
            for node in ast.walk(tree):
                if isinstance(node, ast.Call) and isinstance(node.func, ast.Name) and node.func.id in ("len", "sorted"):
                    right.add(id(node.args[0]))
            for node in ast.walk(tree):
                is_call = isinstance(node, ast.Call) and isinstance(node.func, ast.Name) and node.func.id == "set"
                if is_call or isinstance(node, (ast.Set, ast.SetComp)):
                    self.assertIn(id(node), right, (path, node.lineno))


if __name__ == "__main__":
    unittest.main()

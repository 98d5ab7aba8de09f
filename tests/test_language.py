"""The rules of the language that can be seen mechanically, over all files of the package."""

import ast
import builtins
import pathlib
import sys
import unittest

ROOT = pathlib.Path(__file__).resolve().parent.parent / "portage"
FILES = sorted(ROOT.rglob("*.py"))
BUILTINS = set("""len range enumerate zip min max sum abs sorted reversed int str bool bytes list tuple dict set frozenset
isinstance ord repr any all divmod pow iter next super Exception ValueError TypeError KeyError IndexError LookupError
ZeroDivisionError ArithmeticError OverflowError RuntimeError NotImplementedError AttributeError StopIteration
NotImplemented""".split())
METHODS = set("""append clear copy count endswith extend find get index insert isalnum isalpha isdigit islower isspace
isupper items join keys ljust lower lstrip partition pop remove replace reverse rfind rjust rpartition rsplit rstrip
setdefault split splitlines startswith strip update upper values zfill bit_length isascii""".split())
OTHER_METHODS = set(dir(str) + dir(int) + dir(list) + dir(dict) + dir(set) + dir(bytes)) - METHODS - {"add", "discard"}
BARRED = set("""register mro elements open input law version_info with_traceback add_note attrgetter breakpoint builtins
compile copyright credits delattr dir eval exec exit gc globals help id importlib license locals methodcaller os quit
vars sys type typing enum Enum""".split())


def walk(kind):
    for path in FILES:
        for node in ast.walk(ast.parse(path.read_text())):
            if isinstance(node, kind):
                yield path, node


def assigned_names():
    """All pairs (path, name) of variables, parameters, functions, methods, classes and attributes that are given."""
    for path, node in walk(ast.AST):
        if isinstance(node, ast.Name) and isinstance(node.ctx, ast.Store):
            yield path, node.id
        elif isinstance(node, ast.arg):
            yield path, node.arg
        elif isinstance(node, (ast.FunctionDef, ast.ClassDef)):
            yield path, node.name


class Files(unittest.TestCase):
    def test_only_python_files(self):
        for path in ROOT.rglob("*"):
            if "__pycache__" not in path.parts:
                self.assertTrue(path.is_file() and path.suffix == ".py" and path.name == path.name.lower(), path)
        self.assertNotIn("portage", sys.stdlib_module_names)

    def test_sizes_and_characters(self):
        for path in FILES:
            text = path.read_text()
            self.assertLessEqual(len(text.splitlines()), 399, path)
            for line in text.split("\n"):
                self.assertLessEqual(len(line), 120, (path, line))
                self.assertTrue(all(" " <= sign <= "~" for sign in line), (path, line))
        for path, node in walk((ast.FunctionDef, ast.Lambda)):
            self.assertLessEqual(node.end_lineno - node.lineno + 1, 40, (path, node.lineno))

    def test_strings(self):
        for path, node in walk(ast.Constant):
            if isinstance(node.value, str):
                self.assertNotIn("%", node.value, (path, node.lineno))
            self.assertNotIsInstance(node.value, (float, complex), path)


class Names(unittest.TestCase):
    def test_builtins(self):
        for path, node in walk(ast.Name):
            if isinstance(node.ctx, ast.Load) and hasattr(builtins, node.id):
                self.assertIn(node.id, BUILTINS, (path, node.lineno))
        for path, name in assigned_names():
            self.assertFalse(hasattr(builtins, name) and name != "__init__", (path, name))

    def test_barred(self):
        for path, name in assigned_names():
            self.assertNotIn(name, BARRED, path)
            self.assertFalse(name.startswith("__") and name != "__init__", (path, name))

    def test_methods(self):
        own = {node.name for _, node in walk(ast.FunctionDef)}
        stored = {node.attr for _, node in walk(ast.Attribute) if isinstance(node.ctx, ast.Store)}
        for path, node in walk(ast.Attribute):
            if node.attr != "__init__":
                self.assertTrue(node.attr in own | stored | METHODS, (path, node.attr))
        for path, node in walk(ast.ClassDef):
            for part in node.body:
                if isinstance(part, ast.FunctionDef) and part.name != "__init__":
                    self.assertNotIn(part.name, OTHER_METHODS, path)
        for name in stored:
            self.assertNotIn(name, OTHER_METHODS)


class Forms(unittest.TestCase):
    def test_module_level(self):
        for path in FILES:
            for at, node in enumerate(ast.parse(path.read_text()).body):
                docstring = at == 0 and isinstance(node, ast.Expr) and isinstance(node.value, ast.Constant)
                allowed = isinstance(node, (ast.ImportFrom, ast.FunctionDef, ast.ClassDef, ast.Assign))
                self.assertTrue(docstring or allowed, (path, node.lineno))
                if isinstance(node, ast.Assign):
                    ast.literal_eval(node.value)

    def test_statements(self):
        barred = (ast.Global, ast.Import, ast.Lambda, ast.AsyncFunctionDef, ast.Yield, ast.YieldFrom, ast.GeneratorExp,
                  ast.Set, ast.With, ast.Div, ast.Starred, ast.AnnAssign)
        for path, node in walk(barred):
            self.fail(f"{path} uses {node} in line {getattr(node, 'lineno', 0)}")

    def test_handlers(self):
        errors = defined(ast.parse((ROOT / "errors.py").read_text()))
        for path, node in walk(ast.Try):
            self.assertEqual(node.finalbody, [], path)
            for handler in node.handlers:
                self.assertIsInstance(handler.type, ast.Name, path)
                self.assertIn(handler.type.id, errors, path)

    def test_imports(self):
        files = {path.stem: ast.parse(path.read_text()) for path in FILES}
        leads = {}
        for stem, tree in files.items():
            imports = [node for node in tree.body if isinstance(node, ast.ImportFrom)]
            leads[stem] = [node.module.removeprefix("portage.") for node in imports]
            names = [name.name for node in imports for name in node.names]
            loaded = [node.id for node in ast.walk(tree) if isinstance(node, ast.Name) and isinstance(node.ctx, ast.Load)]
            bound = [name for path, name in assigned_names() if path.stem == stem]
            for name in names:
                self.assertIn(name, loaded, stem)
                self.assertNotIn(name, bound, stem)
            for node in imports:
                self.assertTrue(node.module.startswith("portage.") and node.level == 0, stem)
                for name in node.names:
                    self.assertIsNone(name.asname)
                    self.assertIn(name.name, defined(files[node.module.removeprefix("portage.")]), stem)
        for stem in leads:
            self.assertNotIn(stem, reached(leads, leads[stem]), "files import from each other")


def defined(tree):
    """The names that a file itself defines."""
    found = [node.name for node in tree.body if isinstance(node, (ast.FunctionDef, ast.ClassDef))]
    return found + [target.id for node in tree.body if isinstance(node, ast.Assign) for target in node.targets]


def reached(leads, stems):
    found = []
    pending = list(stems)
    while pending:
        stem = pending.pop()
        if stem not in found:
            found.append(stem)
            pending.extend(leads[stem])
    return found


if __name__ == "__main__":
    unittest.main()

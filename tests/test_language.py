"""The rules of the language that can be seen in the text of the package."""

import ast
import pathlib
import re
import unittest

PACKAGE = pathlib.Path(__file__).resolve().parent.parent / "stilltold"
FILES = sorted(path for path in PACKAGE.rglob("*") if path.is_file() and "__pycache__" not in path.parts)
SOURCES = [(path, path.read_text(encoding="utf-8")) for path in FILES]
TREES = [(path, ast.parse(text)) for path, text in SOURCES]

BARRED_WORDS = ("type typing typing_extensions enum Enum IntEnum StrEnum Flag IntFlag Generic Protocol ABC ABCMeta "
                "namedtuple NamedTuple TypedDict TYPE_CHECKING abstractmethod").split()
BARRED_PARTS = ("dataclass", "overload", "contextmanager", "%")
ERRORS = ("Exception ValueError TypeError KeyError IndexError LookupError ZeroDivisionError ArithmeticError "
          "OverflowError RuntimeError NotImplementedError AttributeError StopIteration NotImplemented").split()
BUILTINS = ("len range enumerate zip min max sum abs sorted reversed int str bool bytes list tuple dict set frozenset "
            "isinstance ord repr any all divmod iter next super property staticmethod classmethod").split() + ERRORS
BARRED_NODES = (ast.Global, ast.AsyncFunctionDef, ast.AsyncFor, ast.AsyncWith, ast.Await, ast.Div, ast.Import)
METHODS = {"__init__", "__eq__", "__len__"}


def nodes(kind):
    return [(path, node) for path, tree in TREES for node in ast.walk(tree) if isinstance(node, kind)]


class Language(unittest.TestCase):
    def test_files(self):
        self.assertIn(PACKAGE / "__init__.py", FILES)
        for path in FILES:
            self.assertRegex(path.name, r"^[a-z_][a-z0-9_]*\.py$")
            self.assertEqual(path.parent, PACKAGE)

    def test_lines_and_characters(self):
        for path, text in SOURCES:
            self.assertRegex(text, r"\A[ -~\n]*\Z", path)
            self.assertLessEqual(len(text.splitlines()), 400, path)
            self.assertLessEqual(max([len(line) for line in text.splitlines()], default=0), 120, path)

    def test_functions_are_short(self):
        for path, node in nodes(ast.FunctionDef):
            self.assertLessEqual(node.end_lineno - node.lineno + 1, 40, (path, node.name))
            self.assertEqual(node.decorator_list, [], (path, node.name))

    def test_barred_words(self):
        for path, text in SOURCES:
            words = re.findall(r"\w+", text)
            self.assertEqual([word for word in words if word in BARRED_WORDS], [], path)
            self.assertEqual([part for part in BARRED_PARTS if part in text], [], path)

    def test_imports(self):
        defined = {path.stem: {node.name for node in tree.body if isinstance(node, (ast.FunctionDef, ast.ClassDef))}
                   | {target.id for node in tree.body if isinstance(node, ast.Assign) for target in node.targets}
                   for path, tree in TREES}
        for path, node in nodes(ast.ImportFrom):
            package, dot, module = node.module.partition(".")
            self.assertEqual((node.level, package), (0, "stilltold"), path)
            for alias in node.names:
                self.assertIn(alias.name, defined[module], path)

    def test_module_level(self):
        allowed = (ast.Expr, ast.ImportFrom, ast.FunctionDef, ast.ClassDef, ast.Assign)
        for path, tree in TREES:
            for node in tree.body:
                self.assertIsInstance(node, allowed, path)

    def test_barred_statements_and_values(self):
        self.assertEqual([(path, node.lineno) for path, node in nodes(BARRED_NODES)], [])
        for path, node in nodes(ast.Constant):
            self.assertNotIsInstance(node.value, (float, complex), path)
        for path, node in nodes(ast.GeneratorExp):
            self.fail(("a generator expression, though a class has __eq__", path, node.lineno))

    def test_names(self):
        bound = [(path, node.id) for path, node in nodes(ast.Name)]
        bound += [(path, node.attr) for path, node in nodes(ast.Attribute)]
        bound += [(path, node.arg) for path, node in nodes(ast.arg)]
        bound += [(path, node.name) for path, node in nodes((ast.FunctionDef, ast.ClassDef))]
        for path, name in bound:
            self.assertTrue(not name.startswith("_") or name in METHODS, (path, name))

    def test_no_name_of_a_builtin_or_an_import_is_bound_again(self):
        known = set(dir(__builtins__) if not isinstance(__builtins__, dict) else __builtins__)
        for path, tree in TREES:
            found = list(ast.walk(tree))
            imported = {alias.name for node in found if isinstance(node, ast.ImportFrom) for alias in node.names}
            stored = {node.id for node in found if isinstance(node, ast.Name) and isinstance(node.ctx, ast.Store)}
            stored |= {node.arg for node in found if isinstance(node, ast.arg)}
            self.assertEqual(stored & (imported | known), set(), path)

    def test_builtins(self):
        known = set(dir(__builtins__) if not isinstance(__builtins__, dict) else __builtins__)
        for path, node in nodes(ast.Name):
            self.assertTrue(node.id not in known or node.id in BUILTINS, (path, node.id))

    def test_no_method_is_called_like_an_attribute(self):
        methods = {part.name for path, node in nodes(ast.ClassDef) for part in node.body
                   if isinstance(part, ast.FunctionDef)}
        attributes = {node.attr for path, node in nodes(ast.Attribute) if isinstance(node.ctx, ast.Store)}
        self.assertEqual(methods & attributes, set())


if __name__ == "__main__":
    unittest.main()

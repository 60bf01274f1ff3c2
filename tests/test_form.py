"""The form of the package's own files: what of the language's rules can be seen by a plain look."""
import ast
import pathlib
import re
import unittest

PACKAGE = pathlib.Path(__file__).resolve().parent.parent / "heads"
STATEMENTS = (ast.FunctionDef, ast.ClassDef, ast.Assign, ast.AugAssign, ast.If, ast.While, ast.For, ast.Return,
              ast.Break, ast.Continue, ast.Pass, ast.Raise, ast.Expr)
BUILT_IN = ("len range enumerate zip min max sum abs sorted reversed int str bool list tuple dict isinstance "
            "any all divmod").split()
METHODS = "append extend get".split()
WORDS = ("type typing typing_extensions enum Enum IntEnum StrEnum Flag IntFlag Generic Protocol ABC ABCMeta "
         "namedtuple NamedTuple TypedDict TYPE_CHECKING abstractmethod").split()


def sources():
    return [(path, path.read_text(encoding="utf-8")) for path in sorted(PACKAGE.glob("*.py"))]


def nodes(kind):
    return [node for path, text in sources() for node in ast.walk(ast.parse(text)) if isinstance(node, kind)]


class Form(unittest.TestCase):
    def test_only_plain_files(self):
        names = sorted(path.name for path in PACKAGE.iterdir() if path.name != "__pycache__")
        self.assertEqual(names, ["__init__.py", "hydra.py"])

    def test_size_and_signs(self):
        for path, text in sources():
            self.assertLessEqual(len(text.splitlines()), 400, path)
            for row in text.splitlines():
                self.assertLessEqual(len(row), 120, row)
            self.assertIsNone(re.search(r"[^ -~\n]", text), path)
        for node in nodes(ast.FunctionDef):
            self.assertLessEqual(node.end_lineno - node.lineno + 1, 40, node.name)

    def test_nothing_is_imported(self):
        self.assertEqual(nodes((ast.Import, ast.ImportFrom)), [])

    def test_words_that_stand_nowhere(self):
        for path, text in sources():
            found = re.findall(r"[A-Za-z0-9_]+", text)
            self.assertEqual([word for word in found if word in WORDS], [], path)
            self.assertIsNone(re.search("dataclass|overload|contextmanager", text), path)

    def test_statements(self):
        for node in nodes(ast.stmt):
            self.assertIsInstance(node, STATEMENTS)
        for node in nodes(ast.Assign):
            self.assertEqual(len(node.targets), 1)
            self.assertIsInstance(node.targets[0], (ast.Name, ast.Attribute, ast.Subscript))
        for node in nodes((ast.For, ast.While)):
            self.assertEqual(node.orelse, [])

    def test_values(self):
        refused = (ast.Div, ast.Set, ast.SetComp, ast.DictComp, ast.GeneratorExp, ast.NamedExpr, ast.Starred,
                   ast.Yield, ast.Await, ast.Is, ast.IsNot)
        self.assertEqual(nodes(refused), [])
        for node in nodes(ast.Constant):
            self.assertNotIsInstance(node.value, (float, bytes, complex))

    def test_calls(self):
        own = [node.name for node in nodes((ast.FunctionDef, ast.ClassDef))]
        for node in nodes(ast.Call):
            if isinstance(node.func, ast.Name):
                self.assertIn(node.func.id, own + BUILT_IN)
            else:
                self.assertIn(node.func.attr, own + METHODS)

    def test_no_function_calls_itself(self):
        for node in nodes(ast.FunctionDef):
            called = [inner.func.id for inner in ast.walk(node)
                      if isinstance(inner, ast.Call) and isinstance(inner.func, ast.Name)]
            self.assertNotIn(node.name, called)

    def test_names(self):
        bound = [node.arg for node in nodes(ast.arg)]
        bound = bound + [node.id for node in nodes(ast.Name) if isinstance(node.ctx, ast.Store)]
        bound = bound + [node.name for node in nodes((ast.FunctionDef, ast.ClassDef)) if node.name != "__init__"]
        python_own = dir(__builtins__) if not isinstance(__builtins__, dict) else list(__builtins__)
        for name in bound:
            self.assertRegex(name, "^[A-Za-z][A-Za-z0-9_]*$")
            self.assertNotIn(name, python_own)


if __name__ == "__main__":
    unittest.main()

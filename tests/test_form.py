"""The form of the package's own files: the rules of LANGUAGE.md that can be seen at a glance."""

import ast
import builtins
import pathlib
import re
import unittest

PACKAGE = pathlib.Path(__file__).resolve().parent.parent / "landwater"

WORDS_NOT_USED = ("type", "typing", "typing_extensions", "enum", "Enum", "IntEnum", "StrEnum", "Flag", "IntFlag",
                  "Generic", "Protocol", "ABC", "ABCMeta", "namedtuple", "NamedTuple", "TypedDict", "TYPE_CHECKING",
                  "abstractmethod")
PARTS_NOT_USED = ("dataclass", "overload", "contextmanager")

PYTHONS_OWN = ("len range enumerate zip min max sum abs sorted reversed int str bool list tuple dict set isinstance "
               "ord repr any all divmod ValueError KeyError ZeroDivisionError StopIteration").split()

NODES_NOT_USED = (ast.With, ast.Match, ast.Delete, ast.Global, ast.Nonlocal, ast.Assert, ast.Yield, ast.YieldFrom,
                  ast.AsyncFunctionDef, ast.Await, ast.SetComp, ast.DictComp, ast.GeneratorExp, ast.NamedExpr,
                  ast.Starred, ast.Div, ast.Import, ast.AnnAssign)


class FormTest(unittest.TestCase):
    def each_file(self):
        for path in sorted(PACKAGE.glob("*.py")):
            with self.subTest(file=path.name):
                yield path.read_bytes().decode("ascii")

    def test_only_python_files(self):
        others = [path.name for path in PACKAGE.iterdir() if path.suffix != ".py" and path.name != "__pycache__"]
        self.assertEqual(others, [])
        self.assertTrue((PACKAGE / "__init__.py").is_file())

    def test_signs_and_sizes(self):
        for text in self.each_file():
            self.assertIsNone(re.search(r"[^ -~\n]", text))
            rows = text.split("\n")
            self.assertLessEqual(len(rows), 400)
            self.assertLessEqual(max(len(row) for row in rows), 120)
            for node in ast.walk(ast.parse(text)):
                if isinstance(node, ast.FunctionDef):
                    self.assertLessEqual(node.end_lineno - node.lineno + 1, 40, node.name)

    def test_words(self):
        for text in self.each_file():
            words = set(re.findall(r"\w+", text))
            self.assertEqual(words & set(WORDS_NOT_USED), set())
            self.assertEqual([part for part in PARTS_NOT_USED if part in text], [])

    def test_nodes(self):
        for text in self.each_file():
            for node in ast.walk(ast.parse(text)):
                self.assertNotIsInstance(node, NODES_NOT_USED)
                if isinstance(node, ast.ImportFrom):
                    self.assertEqual(node.level, 0)
                    self.assertTrue(node.module.startswith("landwater."))
                if isinstance(node, ast.Constant):
                    self.assertIsInstance(node.value, (int, str, type(None)))

    def test_top_keeps_plain_values_alone(self):
        for text in self.each_file():
            docstring, *rest = ast.parse(text).body
            self.assertIsInstance(docstring, ast.Expr)
            for node in rest:
                if isinstance(node, ast.Assign):
                    ast.literal_eval(node.value)
                else:
                    self.assertIsInstance(node, (ast.ImportFrom, ast.FunctionDef, ast.ClassDef))

    def test_names(self):
        for text in self.each_file():
            for node in ast.walk(ast.parse(text)):
                if isinstance(node, ast.Name):
                    self.assertFalse(node.id.startswith("_"))
                    if hasattr(builtins, node.id):
                        self.assertIn(node.id, PYTHONS_OWN)
                        self.assertIsInstance(node.ctx, ast.Load)
                if isinstance(node, ast.arg):
                    self.assertFalse(hasattr(builtins, node.arg), node.arg)

    def test_locals_have_names_of_their_own(self):
        for text in self.each_file():
            tree = ast.parse(text)
            taken = {node.name for node in tree.body if isinstance(node, ast.ClassDef)}
            for node in tree.body:
                if isinstance(node, ast.ImportFrom):
                    taken |= {one.name for one in node.names}
            for node in ast.walk(tree):
                if isinstance(node, ast.arg):
                    self.assertNotIn(node.arg, taken)
                if isinstance(node, ast.Name) and isinstance(node.ctx, ast.Store):
                    self.assertNotIn(node.id, taken)


if __name__ == "__main__":
    unittest.main()

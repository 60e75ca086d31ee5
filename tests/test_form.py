"""The part of Python that the package keeps to, as far as a look at its files can tell."""

import ast
import re
import unittest
from pathlib import Path

PACKAGE = Path(__file__).resolve().parent.parent / "plansoflooks"
FILES = sorted(PACKAGE.rglob("*.py"))
ALLOWED_NODES = """
    Module FunctionDef ClassDef ImportFrom alias arguments arg Assign AugAssign If While For Return Break Continue
    Pass Raise Try ExceptHandler Expr BinOp UnaryOp BoolOp Compare IfExp Call Attribute Subscript Slice Name Constant
    List Tuple Dict ListComp comprehension Lambda JoinedStr FormattedValue keyword Load Store
    Add Sub Mult FloorDiv Mod Pow BitAnd BitOr BitXor LShift RShift Invert USub Not And Or
    Eq NotEq Lt LtE Gt GtE Is IsNot In NotIn
""".split()
BARRED_WORDS = """
    type typing typing_extensions enum Enum IntEnum StrEnum Flag IntFlag Generic Protocol ABC ABCMeta namedtuple
    NamedTuple TypedDict TYPE_CHECKING abstractmethod
""".split()


class Form(unittest.TestCase):
    def test_only_python_files_lie_there(self):
        self.assertTrue(FILES)
        for path in PACKAGE.rglob("*"):
            if "__pycache__" not in path.parts:
                self.assertRegex(path.name, r"\A([a-z][a-z0-9_]*|__init__)\.py\Z")

    def test_signs_and_sizes(self):
        for path in FILES:
            rows = path.read_bytes().decode("ascii").split("\n")
            self.assertLessEqual(len(rows), 400, path)
            for row in rows:
                self.assertRegex(row, r"\A[ -~]{0,120}\Z", path)

    def test_barred_words(self):
        for path in FILES:
            words = re.findall(r"\w+", path.read_text())
            self.assertEqual([word for word in words if word in BARRED_WORDS], [], path)

    def test_statements_and_values(self):
        for path in FILES:
            for node in ast.walk(ast.parse(path.read_text())):
                self.assertIn(type(node).__name__, ALLOWED_NODES, path)
                if isinstance(node, ast.FunctionDef):
                    self.assertLessEqual(node.end_lineno - node.lineno + 1, 40, node.name)
                    self.assertEqual(node.decorator_list, [])
                if isinstance(node, ast.ImportFrom):
                    self.assertTrue(node.module.startswith("plansoflooks.") and node.level == 0, path)
                if isinstance(node, ast.Constant):
                    self.assertIn(type(node.value), (int, str, bool, type(None)), path)
                if isinstance(node, ast.Name):
                    self.assertFalse(node.id.startswith("_"), path)


if __name__ == "__main__":
    unittest.main()

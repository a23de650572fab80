"""The package's files keep to the rules of the language that can be read off them simply."""

import ast
import re
import unittest
from pathlib import Path

PACKAGE = Path(__file__).resolve().parent.parent / "roundtypes"
FILES = sorted(path for path in PACKAGE.rglob("*") if "__pycache__" not in path.parts)

NOWHERE = re.compile(
    r"\b(type|typing|typing_extensions|enum|Enum|IntEnum|StrEnum|Flag|IntFlag|Generic|Protocol|ABC|ABCMeta|"
    r"namedtuple|NamedTuple|TypedDict|TYPE_CHECKING|abstractmethod)\b|dataclass|overload|contextmanager"
)
NODES = (
    ast.With, ast.Match, ast.Delete, ast.Global, ast.Nonlocal, ast.Assert, ast.Yield, ast.YieldFrom, ast.Await,
    ast.AsyncFunctionDef, ast.AsyncFor, ast.AsyncWith, ast.Div, ast.SetComp, ast.DictComp, ast.GeneratorExp,
    ast.NamedExpr, ast.Starred, ast.Import, ast.Set, ast.AnnAssign,
)


class Language(unittest.TestCase):
    def test_only_python_files(self):
        self.assertEqual([path.name for path in FILES], ["__init__.py", "rounds.py", "types.py"])

    def test_signs_sizes_and_words(self):
        for path in FILES:
            rows = path.read_text(encoding="utf-8").split("\n")
            self.assertLessEqual(len(rows), 399, path)
            for row in rows:
                self.assertLessEqual(len(row), 120, row)
                self.assertRegex(row, r"\A[ -~]*\Z")
                self.assertIsNone(NOWHERE.search(row), row)

    def test_forms(self):
        for path in FILES:
            for node in ast.walk(ast.parse(path.read_text(encoding="utf-8"))):
                self.assertNotIsInstance(node, NODES, path)
                if isinstance(node, ast.FunctionDef):
                    self.assertLessEqual(node.end_lineno - node.lineno + 1, 40, node.name)
                    self.assertEqual(node.decorator_list, [], node.name)
                if isinstance(node, ast.ImportFrom):
                    self.assertTrue(node.module.startswith("roundtypes.") and node.level == 0, node.module)
                if isinstance(node, ast.Assign):
                    self.assertEqual(len(node.targets), 1)
                    self.assertNotIsInstance(node.targets[0], (ast.Tuple, ast.List))


if __name__ == "__main__":
    unittest.main()

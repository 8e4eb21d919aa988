"""Those rules of LANGUAGE.md that a short look at the package's files can tell."""
import ast
import builtins
import re
import unittest
from pathlib import Path

PACKAGE = Path(__file__).resolve().parent.parent / "classmarks"
BUILTINS = set(
    "len range enumerate zip min max sum abs sorted reversed int str bool bytes list tuple dict set frozenset isinstance"
    " ord repr any all divmod iter next property staticmethod classmethod super Exception ValueError TypeError"
    " KeyError IndexError LookupError ZeroDivisionError ArithmeticError OverflowError RuntimeError"
    " NotImplementedError AttributeError StopIteration NotImplemented".split()
)
BARRED = re.compile(
    r"\b(type|typing|typing_extensions|enum|Enum|IntEnum|StrEnum|Flag|IntFlag|Generic|Protocol|ABC|ABCMeta"
    r"|namedtuple|NamedTuple|TypedDict|TYPE_CHECKING|abstractmethod)\b|dataclass|overload|contextmanager"
)


def sources():
    """Tell each file of the package with its text."""
    return [(path, path.read_text(encoding="utf-8")) for path in sorted(PACKAGE.glob("*.py"))]


def nodes(kind):
    """Tell the parts of this kind in all files, each with the place where it stands."""
    return [(f"{path.name}:{node.lineno}", node) for path, text in sources()
            for node in ast.walk(ast.parse(text)) if isinstance(node, kind)]


class Language(unittest.TestCase):
    def test_l1_l14_plain_files_only(self):
        others = [path.name for path in PACKAGE.iterdir() if path.name != "__pycache__"
                  and not re.fullmatch(r"(__init__|[a-z][a-z0-9_]*)\.py", path.name)]
        self.assertEqual(others, [])

    def test_l10_sizes(self):
        for path, text in sources():
            rows = text.split("\n")
            self.assertLessEqual(len(rows), 399, path.name)
            self.assertLessEqual(max(map(len, rows)), 120, path.name)
        for place, node in nodes(ast.FunctionDef):
            self.assertLessEqual(node.end_lineno - node.lineno + 1, 40, place)

    def test_l14_characters(self):
        for path, text in sources():
            self.assertRegex(text, r"\A[ -~\n]*\Z", path.name)

    def test_l16_imports_name_a_file_of_the_package(self):
        self.assertEqual(nodes(ast.Import), [])
        for place, node in nodes(ast.ImportFrom):
            self.assertEqual(node.level, 0, place)
            self.assertRegex(node.module, r"\Aclassmarks\.[a-z_]+\Z", place)
            for name in node.names:
                defined = PACKAGE / (node.module.split(".")[1] + ".py")
                self.assertRegex(defined.read_text(), rf"(?m)^((def|class) {name.name}\b|{name.name} = )", place)

    def test_l17_barred_words(self):
        for path, text in sources():
            self.assertNotRegex(text, BARRED, path.name)

    def test_l8_builtins(self):
        for place, node in nodes(ast.Name):
            if hasattr(builtins, node.id):
                self.assertIn(node.id, BUILTINS, place)
                self.assertIsInstance(node.ctx, ast.Load, place)

    def test_l12_names_without_an_underscore_ahead(self):
        for place, node in nodes((ast.FunctionDef, ast.ClassDef)):
            self.assertRegex(node.name, r"\A([A-Za-z]\w*|__\w+__)\Z", place)
        for place, node in nodes(ast.Name):
            self.assertRegex(node.id, r"\A[A-Za-z]", place)

    def test_l15_no_local_name_of_a_class_an_import_or_a_builtin(self):
        for path, text in sources():
            tree = ast.parse(text)
            taken = {name.name for node in ast.walk(tree) if isinstance(node, ast.ImportFrom) for name in node.names}
            taken |= {node.name for node in ast.walk(tree) if isinstance(node, ast.ClassDef)} | set(dir(builtins))
            for node in ast.walk(tree):
                if isinstance(node, ast.arg):
                    self.assertNotIn(node.arg, taken, f"{path.name}:{node.lineno}")
                if isinstance(node, ast.Name) and isinstance(node.ctx, ast.Store):
                    self.assertNotIn(node.id, taken, f"{path.name}:{node.lineno}")

    def test_l18_no_name_is_a_method_and_an_attribute(self):
        methods = {part.name for place, node in nodes(ast.ClassDef) for part in node.body
                   if isinstance(part, ast.FunctionDef)}
        for place, node in nodes(ast.Attribute):
            if isinstance(node.ctx, ast.Store):
                self.assertNotIn(node.attr, methods, place)

    def test_l20_is(self):
        for place, node in nodes(ast.Compare):
            for sign, right in zip(node.ops, node.comparators):
                if isinstance(sign, (ast.Is, ast.IsNot)):
                    self.assertIn(getattr(right, "value", 0), (None, True, False), place)

    def test_l7_no_generator_expression_where_eq_asks_for_a_list(self):
        for place, node in nodes(ast.Call):
            if isinstance(node.func, ast.Name) and node.func.id in ("any", "all", "min", "max", "sum", "sorted"):
                self.assertFalse(any(isinstance(given, ast.GeneratorExp) for given in node.args), place)


if __name__ == "__main__":
    unittest.main()

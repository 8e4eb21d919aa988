"""Those rules of LANGUAGE.md that a short look at the package's files can tell."""
import ast
import builtins
import re
import unittest
from pathlib import Path

PACKAGE = Path(__file__).resolve().parent.parent / "classmarks"
BUILTINS = set(
    "len range enumerate zip min max sum abs sorted reversed int str bool bytes list tuple dict set frozenset isinstance"
    " ord repr any all divmod iter next property staticmethod classmethod super Exception ValueError TypeError"
    " KeyError IndexError LookupError ZeroDivisionError ArithmeticError OverflowError RuntimeError"
    " NotImplementedError AttributeError StopIteration NotImplemented".split()
)
BARRED = re.compile(
    r"\b(type|typing|typing_extensions|enum|Enum|IntEnum|StrEnum|Flag|IntFlag|Generic|Protocol|ABC|ABCMeta"
    r"|namedtuple|NamedTuple|TypedDict|TYPE_CHECKING|abstractmethod)\b|dataclass|overload|contextmanager"
)


def sources():
    """Tell each file of the package with its text."""
    return [(path, path.read_text(encoding="utf-8")) for path in sorted(PACKAGE.glob("*.py"))]


def nodes(kind):
    """Tell the parts of this kind in all files, each with the place where it stands."""
    return [(f"{path.name}:{node.lineno}", node) for path, text in sources()
            for node in ast.walk(ast.parse(text)) if isinstance(node, kind)]


def parents(kind):
    """Tell the parts of this kind in all files, each with its place and the part in which it stands."""
    return [(f"{path.name}:{getattr(node, 'lineno', 0)}", part, node) for path, text in sources()
            for node in ast.walk(ast.parse(text)) for part in ast.iter_child_nodes(node) if isinstance(part, kind)]


def calls(node, names):
    """Tell whether this is a call of one of these names."""
    return isinstance(node, ast.Call) and isinstance(node.func, ast.Name) and node.func.id in names


class Language(unittest.TestCase):
    def test_l1_l14_plain_files_only(self):
        others = [path.name for path in PACKAGE.iterdir() if path.name != "__pycache__"
                  and not re.fullmatch(r"(__init__|[a-z][a-z0-9_]*)\.py", path.name)]
        self.assertEqual(others, [])

    def test_l10_sizes(self):
        for path, text in sources():
            rows = text.split("\n")
            self.assertLessEqual(len(rows), 399, path.name)
            self.assertLessEqual(max(map(len, rows)), 120, path.name)
        for place, node in nodes(ast.FunctionDef):
            self.assertLessEqual(node.end_lineno - node.lineno + 1, 40, place)

    def test_l14_characters(self):
        for path, text in sources():
            self.assertRegex(text, r"\A[ -~\n]*\Z", path.name)

    def test_l16_imports_name_a_file_of_the_package(self):
        self.assertEqual(nodes(ast.Import), [])
        for place, node in nodes(ast.ImportFrom):
            self.assertEqual(node.level, 0, place)
            self.assertRegex(node.module, r"\Aclassmarks\.[a-z_]+\Z", place)
            for name in node.names:
                defined = PACKAGE / (node.module.split(".")[1] + ".py")
                self.assertRegex(defined.read_text(), rf"(?m)^((def|class) {name.name}\b|{name.name} = )", place)

    def test_l17_barred_words(self):
        for path, text in sources():
            self.assertNotRegex(text, BARRED, path.name)

    def test_l8_builtins(self):
        for place, node in nodes(ast.Name):
            if hasattr(builtins, node.id):
                self.assertIn(node.id, BUILTINS, place)
                self.assertIsInstance(node.ctx, ast.Load, place)

    def test_l12_names_without_an_underscore_ahead(self):
        for place, node in nodes((ast.FunctionDef, ast.ClassDef)):
            self.assertRegex(node.name, r"\A([A-Za-z]\w*|__\w+__)\Z", place)
        for place, node in nodes(ast.Name):
            self.assertRegex(node.id, r"\A[A-Za-z]", place)

    def test_l15_no_local_name_of_a_class_an_import_or_a_builtin(self):
        for path, text in sources():
            tree = ast.parse(text)
            taken = {name.name for node in ast.walk(tree) if isinstance(node, ast.ImportFrom) for name in node.names}
            taken |= {node.name for node in ast.walk(tree) if isinstance(node, ast.ClassDef)} | set(dir(builtins))
            for node in ast.walk(tree):
                if isinstance(node, ast.arg):
                    self.assertNotIn(node.arg, taken, f"{path.name}:{node.lineno}")
                if isinstance(node, ast.Name) and isinstance(node.ctx, ast.Store):
                    self.assertNotIn(node.id, taken, f"{path.name}:{node.lineno}")

    def test_l18_no_name_is_a_method_and_an_attribute(self):
        methods = {part.name for place, node in nodes(ast.ClassDef) for part in node.body
                   if isinstance(part, ast.FunctionDef)}
        for place, node in nodes(ast.Attribute):
            if isinstance(node.ctx, ast.Store):
                self.assertNotIn(node.attr, methods, place)

    def test_l20_is(self):
        for place, node in nodes(ast.Compare):
            for sign, right in zip(node.ops, node.comparators):
                if isinstance(sign, (ast.Is, ast.IsNot)):
                    self.assertIn(getattr(right, "value", 0), (None, True, False), place)

    def test_l7_no_generator_expression_where_eq_asks_for_a_list(self):
        for place, node in nodes(ast.Call):
            if isinstance(node.func, ast.Name) and node.func.id in ("any", "all", "min", "max", "sum", "sorted"):
                self.assertFalse(any(isinstance(given, ast.GeneratorExp) for given in node.args), place)

    def test_l7_no_float_no_division_no_generator_expression(self):
        self.assertEqual(nodes((ast.Div, ast.GeneratorExp)), [])
        for place, node in nodes(ast.BinOp):
            self.assertNotIsInstance(node.op, ast.Div, place)
        for place, node in nodes(ast.Constant):
            self.assertNotIsInstance(node.value, (float, complex), place)

    def test_l7_behind_the_star_of_a_call_stands_a_name(self):
        for place, node in nodes(ast.Call):
            for given in node.args:
                if isinstance(given, ast.Starred):
                    self.assertIsInstance(given.value, (ast.Name, ast.List, ast.Tuple), place)
            self.assertNotIn(None, [keyword.arg for keyword in node.keywords], place)

    def test_l22_keywords_of_builtins(self):
        for place, node in nodes(ast.Call):
            if isinstance(node.func, ast.Name) and node.func.id in BUILTINS:
                for keyword in node.keywords:
                    self.assertIn((node.func.id, keyword.arg), (
                        ("sorted", "key"), ("min", "key"), ("max", "key"), ("min", "default"), ("max", "default"),
                        ("enumerate", "start")), place)
            if isinstance(node.func, ast.Attribute) and node.func.attr not in ("__init__",):
                self.assertEqual(node.keywords, [], place)

    def test_l23_iterated_on_the_spot(self):
        takers = ("list", "tuple", "dict", "sorted", "sum", "any", "all", "enumerate", "zip", "min", "max")
        for place, part, node in parents(ast.Call):
            if calls(part, ("zip", "enumerate", "reversed", "range")):
                loop = isinstance(node, (ast.For, ast.comprehension)) and node.iter is part
                self.assertTrue(loop or calls(node, takers), place)

    def test_l24_sets_stand_in_sorted_or_len(self):
        for place, part, node in parents((ast.Set, ast.SetComp, ast.Call)):
            if isinstance(part, (ast.Set, ast.SetComp)) or calls(part, ("set",)):
                self.assertTrue(calls(node, ("sorted", "len")) and node.keywords == [], place)

    def test_l3_module_level(self):
        for path, text in sources():
            for node in ast.parse(text).body:
                self.assertIsInstance(node, (ast.Expr, ast.ImportFrom, ast.FunctionDef, ast.ClassDef, ast.Assign), path.name)
                if isinstance(node, ast.Expr):
                    self.assertIsInstance(node.value, ast.Constant, path.name)

    def test_l6_l8_l27_neither_barred_statements_nor_strings(self):
        self.assertEqual(nodes((ast.Global, ast.AsyncFunctionDef, ast.Await, ast.Yield, ast.Try, ast.With)), [])
        for place, node in nodes(ast.Constant):
            if isinstance(node.value, str):
                self.assertNotIn(chr(37), node.value, place)

    def test_l16_no_two_files_import_from_each_other(self):
        uses = {path.stem: {node.module.split(".")[1] for node in ast.walk(ast.parse(text))
                            if isinstance(node, ast.ImportFrom)} for path, text in sources()}
        while uses:
            free = [name for name in uses if not uses[name] & set(uses)]
            self.assertNotEqual(free, [], uses)
            uses = {name: uses[name] for name in uses if name not in free}


if __name__ == "__main__":
    unittest.main()

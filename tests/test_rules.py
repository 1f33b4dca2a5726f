"""The rules of the language that a reading of the source can tell."""

import ast
import builtins
import pathlib
import re
import unittest

PACKAGE = pathlib.Path(__file__).resolve().parent.parent / "thirdcounts"
FILES = sorted(PACKAGE.rglob("*.py"))

NODES = """
Module Expr Constant ImportFrom alias FunctionDef ClassDef arguments arg Return Assign If While For Break Continue Pass
Raise Name Load Store Attribute Subscript Slice Call keyword Starred Tuple List Dict ListComp DictComp comprehension
BinOp Add Sub Mult FloorDiv Mod Pow LShift RShift BitAnd BitOr BitXor UnaryOp USub Not BoolOp And Or IfExp Compare
Eq NotEq Lt LtE Gt GtE In NotIn Is IsNot JoinedStr FormattedValue
""".split()
LIBRARY = {"math": ["gcd", "lcm", "isqrt", "comb"]}
BUILTINS = """
len range enumerate zip min max sum abs sorted reversed int str bool list tuple dict isinstance ord repr any all divmod
""".split()
ERROR_BASES = "ValueError KeyError IndexError RuntimeError OverflowError ArithmeticError".split()
METHODS = """
append count endswith extend find get index insert isalnum isalpha isascii isdigit islower items join keys lower partition
pop remove removeprefix removesuffix replace reverse rfind split startswith strip update upper values bit_length
""".split()
BARRED_NAMES = "register mro elements open input law version_info with_traceback add_note".split()
BARRED_WORDS = """
type typing enum Enum IntEnum Flag IntFlag Generic Protocol ABC ABCMeta namedtuple NamedTuple TypedDict abstractmethod
""".split()

INTERFACE = {
    "errors": """
ThirdError InvalidTable InvalidPoly InvalidScheme InvalidCounts InvalidWeb InvalidKinds InvalidLot InvalidOrder
InvalidParting InvalidMoves InvalidPledge InvalidOperation ParseError InvalidNumber UnknownName NothingToUndo TooMany
Refused
""",
    "base/numbers": """
is_integer is_name is_fraction is_number fraction added less multiplied divided compared power_of root_of floor_of
factorial binomial number_text number_of_text
""",
    "base/tables": """
is_table is_idle idle_table table_turned table_sum table_scaled table_product row_times table_trace determinant
table_undone table_rank table_echelon table_kernel table_solved
""",
    "base/polys": """
is_poly poly_sum poly_less poly_product poly_value derived poly_rest poly_share poly_shares are_shares zeros_between
integer_zeros poly_of_zeros fitted poly_text poly_of_text
""",
}
BARRED_STARTS = ("_wall", "_pe_", "_dcw_", "_enum_", "_cm_", "_twin_re_", "_lay_", "_law_", "_stub_", "_sre", "_WallAttr")


def tree_of(path):
    return ast.parse(path.read_text())


def bound_names(tree):
    """All names that a file gives to functions, classes, parameters and variables."""
    for node in ast.walk(tree):
        if isinstance(node, ast.FunctionDef | ast.ClassDef):
            yield node.name
        elif isinstance(node, ast.arg):
            yield node.arg
        elif isinstance(node, ast.Name) and isinstance(node.ctx, ast.Store):
            yield node.id


def imported_names(tree):
    return [alias.name for node in tree.body if isinstance(node, ast.ImportFrom) for alias in node.names]


class Rules(unittest.TestCase):

    def each(self, kind):
        for path in FILES:
            for node in ast.walk(tree_of(path)):
                if isinstance(node, kind):
                    yield f"{path.name}:{getattr(node, 'lineno', 0)}", node

    def test_files(self):
        for path in PACKAGE.rglob("*"):
            if path.name != "__pycache__" and path.parent.name != "__pycache__":
                self.assertTrue(path.is_dir() or path.suffix == ".py", path)
            if path.is_dir() and path.name != "__pycache__":
                self.assertTrue((path / "__init__.py").exists(), path)
        for path in FILES:
            self.assertRegex(path.name, "^([a-z][a-z0-9_]*|__init__)[.]py$")
            text = path.read_text()
            self.assertTrue(all(" " <= letter <= "~" or letter == "\n" for letter in text), path)
            lines = text.split("\n")
            self.assertLessEqual(len(lines), 399, path)
            self.assertLessEqual(max(len(line) for line in lines), 120, path)

    def test_interface(self):
        for name, told in INTERFACE.items():
            body = tree_of(PACKAGE / f"{name}.py").body
            kind = ast.ClassDef if name == "errors" else ast.FunctionDef
            defined = [node.name for node in body if isinstance(node, kind)]
            self.assertEqual([word for word in told.split() if word not in defined], [], name)

    def test_statements(self):
        for place, node in self.each(ast.AST):
            self.assertIn(node.__class__.__name__, NODES, place)
        for place, node in self.each(ast.FunctionDef):
            self.assertLessEqual(node.end_lineno - node.lineno + 1, 40, place)
            self.assertEqual(node.decorator_list, [], place)
        for path in FILES:
            for node in tree_of(path).body:
                self.assertIsInstance(node, ast.Expr | ast.ImportFrom | ast.FunctionDef | ast.ClassDef | ast.Assign, path)
                self.assertTrue(not isinstance(node, ast.Expr) or isinstance(node.value, ast.Constant), path)

    def test_imports(self):
        order = {}
        for path in FILES:
            tree = tree_of(path)
            names = imported_names(tree)
            self.assertEqual(len(names), len(set(names)), path)
            used = [node.id for node in ast.walk(tree) if isinstance(node, ast.Name)]
            self.assertEqual([name for name in names if name not in used], [], path)
            order[path] = []
            for node in [node for node in tree.body if isinstance(node, ast.ImportFrom)]:
                self.assertEqual([alias.asname for alias in node.names if alias.asname], [], path)
                if node.module in LIBRARY:
                    self.assertTrue(all(alias.name in LIBRARY[node.module] for alias in node.names), path)
                else:
                    target = PACKAGE.parent / (node.module.replace(".", "/") + ".py")
                    defined = [found.name for found in tree_of(target).body if hasattr(found, "name")]
                    self.assertTrue(all(alias.name in defined for alias in node.names), path)
                    order[path].append(target)
        while order:
            free = [path for path in order if not any(target in order for target in order[path])]
            self.assertTrue(free, "files import one another")
            for path in free:
                del order[path]

    def test_names(self):
        for path in FILES:
            tree = tree_of(path)
            names = list(bound_names(tree))
            for name in names:
                self.assertRegex(name, "^(_?[A-Za-z][A-Za-z0-9_]*|_|__init__)$", path)
                self.assertTrue(name == "__init__" or not hasattr(builtins, name), (path, name))
                self.assertNotIn(name, BARRED_NAMES, path)
                self.assertNotIn(name, imported_names(tree), path)
                self.assertFalse(name.startswith(BARRED_STARTS), path)
            module = [node for node in tree.body if isinstance(node, ast.FunctionDef | ast.ClassDef)]
            known = [node.name for node in module] + imported_names(tree)
            known += [target.id for node in tree.body if isinstance(node, ast.Assign) for target in node.targets]
            self.assertEqual(len(known), len(set(known)), path)
            for node in ast.walk(tree):
                if isinstance(node, ast.Name) and isinstance(node.ctx, ast.Load) and node.id not in known + names:
                    self.assertIn(node.id, BUILTINS + ERROR_BASES, path)
                if isinstance(node, ast.Name) and isinstance(node.ctx, ast.Load):
                    self.assertNotEqual(node.id, "_", path)

    def test_calls(self):
        for place, node in self.each(ast.Call):
            if isinstance(node.func, ast.Attribute):
                self.assertIn(node.func.attr, METHODS, place)
            else:
                self.assertIsInstance(node.func, ast.Name, place)
            if isinstance(node.func, ast.Name) and node.func.id in BUILTINS:
                self.assertEqual(node.keywords, [], place)
            for argument in [argument for argument in node.args if isinstance(argument, ast.Starred)]:
                self.assertIsInstance(argument.value, ast.Name, place)
        for place, node in self.each(ast.Raise):
            self.assertTrue(isinstance(node.exc, ast.Call) and isinstance(node.exc.func, ast.Name), place)

    def test_values(self):
        for place, node in self.each(ast.Constant):
            self.assertIsInstance(node.value, int | str | None, place)
            if isinstance(node.value, str):
                self.assertNotIn("%", node.value, place)
                self.assertFalse(node.value.endswith(("._", ".__")), place)
        for place, node in self.each(ast.BinOp):
            if isinstance(node.op, ast.Pow):
                self.assertTrue(isinstance(node.right, ast.Constant) and 0 <= node.right.value <= 64, place)
        for place, node in self.each(ast.Compare):
            for sign, value in zip(node.ops, node.comparators):
                if isinstance(sign, ast.Is | ast.IsNot):
                    self.assertTrue(isinstance(value, ast.Constant) and not isinstance(value.value, str), place)

    def test_words(self):
        for path in FILES:
            tree = tree_of(path)
            words = [node.id for node in ast.walk(tree) if isinstance(node, ast.Name)]
            words += [node.attr for node in ast.walk(tree) if isinstance(node, ast.Attribute)] + list(bound_names(tree))
            for node in ast.walk(tree):
                if isinstance(node, ast.Constant) and isinstance(node.value, str):
                    words += re.findall("[A-Za-z_]+", node.value)
            self.assertEqual([word for word in words if word in BARRED_WORDS], [], path)


if __name__ == "__main__":
    unittest.main()

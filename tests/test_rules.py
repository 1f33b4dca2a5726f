"""The rules of the language that a reading of the source can tell."""

import ast
import builtins
import pathlib
import re
import unittest

PACKAGE = pathlib.Path(__file__).resolve().parent.parent / "thirdcounts"
FILES = sorted(PACKAGE.rglob("*.py"))

NODES = """
Module Expr Constant ImportFrom alias FunctionDef ClassDef arguments arg Return Assign If While For Break Continue Pass
Raise Name Load Store Attribute Subscript Slice Call keyword Starred Tuple List Dict ListComp DictComp comprehension
BinOp Add Sub Mult FloorDiv Mod Pow LShift RShift BitAnd BitOr BitXor UnaryOp USub Not BoolOp And Or IfExp Compare
Eq NotEq Lt LtE Gt GtE In NotIn Is IsNot JoinedStr FormattedValue SetComp With withitem Yield YieldFrom
""".split()
LIBRARY = {"math": ["gcd", "lcm", "isqrt", "comb"]}
BUILTINS = """
len range enumerate zip min max sum abs sorted reversed int str bool list tuple dict isinstance ord repr any all divmod set
iter
""".split()
DECORATORS = "property classmethod".split()
SPECIAL = "__init__ __eq__ __len__ __iter__ __contains__ __str__ __enter__ __exit__".split()
QUIET = "__eq__ __len__ __iter__ __contains__ __str__".split()
ERROR_BASES = "ValueError KeyError IndexError RuntimeError OverflowError ArithmeticError".split()
METHODS = """
append count endswith extend find get index insert isalnum isalpha isascii isdigit islower items join keys lower partition
pop remove removeprefix removesuffix replace reverse rfind setdefault split startswith strip update upper values bit_length
""".split()
CHANGING = "append clear extend insert pop remove reverse setdefault update".split()
BARRED_NAMES = "register mro elements open input law version_info with_traceback add_note".split()
BARRED_WORDS = """
type typing enum Enum IntEnum Flag IntFlag Generic Protocol ABC ABCMeta namedtuple NamedTuple TypedDict abstractmethod
""".split()

INTERFACE = {
    "errors": """
ThirdError InvalidTable InvalidPoly InvalidScheme InvalidCounts InvalidWeb InvalidKinds InvalidLot InvalidOrder
InvalidParting InvalidMoves InvalidPledge InvalidOperation ParseError InvalidNumber UnknownName NothingToUndo TooMany
Refused
""",
    "base/numbers": """
is_integer is_name is_fraction is_number fraction added less multiplied divided compared power_of root_of floor_of
factorial binomial number_text number_of_text
""",
    "base/tables": """
is_table is_idle idle_table table_turned table_sum table_scaled table_product row_times table_trace determinant
table_undone table_rank table_echelon table_kernel table_solved
""",
    "base/polys": """
is_poly poly_sum poly_less poly_product poly_value derived poly_rest poly_share poly_shares are_shares zeros_between
integer_zeros poly_of_zeros fitted poly_text poly_of_text
""",
    "pairs/schemes": """
Scheme is_kinds_table is_scheme_table thirds scheme_fault is_fault points_of_words points_of_subsets
""",
    "pairs/counts": """
is_counts counts_fault is_counts_fault counts_of lone_counts valencies_of points_of kinds_product kinds_pairing kinds_power
walks_by_kinds kinds_value least_poly kinds_undone counts_renumbered counts_order is_counts_order
""",
    "eigen/spaces": """
has_integer_values first_table second_table multiplicities is_first_table counts_by_table space_values row_with_values
space_share frame_number
""",
    "eigen/krein": """
krein_number krein_table krein_fault absolute_fault are_dual ball_products unlike_points ball_bound ball_mean balance
""",
    "ladder/ladders": """
is_kind_ladder is_space_ladder kind_ladders space_ladders array_of space_array is_array array_fault ladder_polys
counts_of_array
""",
    "webs/walks": """
Web moments least_poly_of_web walk_polys ones_poly excess mean_far is_distance_scheme distance_scheme web_of_kinds
""",
    "twokinds/tuples": """
tuple_fault is_half left_tuple tuple_values tuples tuple_of_web two_scheme switched odd_triples odd_number switching_points
is_switching signs_table
""",
    "parts/closed": """
is_closed closed_sets closed_by classes_of piece piece_counts bundles quotient quotient_counts spaces_above is_primitive
""",
    "made/products": """
beside inside power beside_counts inside_counts power_counts power_types beside_table inside_table power_table
""",
    "made/fusions": """
is_parting is_fusion fusion_fault is_fusion_fault fused_counts fused spaces_parting all_partings all_fusions common_parting
met_parting fused_twice
""",
    "moving/groups": """
is_makers scheme_of_moves is_kept kept_move moves_paper is_moves_paper group_elements group_sum lot_sum group_scheme
dual_parting group_rows
""",
    "lots/counting": """
inner_counts dual_counts outer_counts dual_row inner_row degree dual_degree rest_of strength size_bounds farthest
least_distance is_perfect lot_scheme
""",
    "lots/bounds": """
bound partner loose_bound bound_row is_bound_row is_passing bound_paper is_bound_paper paper_worth partner_row
is_partner_row row_of_paper paper_of_row lots_bound
""",
    "lots/meeting": """
pair_sum are_across common_number does_keep greatest_size greatest_lot is_greatest_lot each_greatest tight_lots
is_tight_lots is_points_parting is_equal_parting parting_numbers means_table rings_of is_even_lot
""",
    "kin/families": "Family ball_poly",
    "use/desk": "is_pledge Desk",
}
CONSTANTS = {
    "base/numbers": "MAX_NAME MAX_RAISED MAX_CHOSEN MAX_TEXT",
    "base/tables": "MAX_SIDE",
    "base/polys": "MAX_DEGREE MAX_TEXT",
    "pairs/schemes": "MAX_POINTS MAX_KINDS",
    "pairs/counts": "MAX_MOST MAX_COUNT MOST_STEPS MOST_POWER MAX_ORDERED",
    "eigen/spaces": "MAX_ROWS",
    "eigen/krein": "MAX_BALANCE MAX_DUAL",
    "ladder/ladders": "MOST_ENTRY MOST_COUNT",
    "webs/walks": "MAX_POINTS MOST_STEPS MOST_DISTANCE",
    "twokinds/tuples": "MOST_TUPLE MOST_LISTED",
    "made/products": "MOST_POINTS MOST_KINDS MOST_COUNT",
    "made/fusions": "MAX_FUSED",
    "moving/groups": "MAX_MAKERS MAX_SEARCHED",
    "lots/meeting": "MOST_GREATEST",
    "kin/families": "MOST_THINGS MOST_PLACES MOST_SIZE MOST_TABLED LETTERS",
    "use/desk": "MAX_LOTS MAX_PLEDGES",
}
CLASSES = {
    "pairs/schemes": """
by_sharing by_places by_ring lone table size most valencies kind_of around number renamed renumbered __eq__ __len__ __iter__
__str__
""",
    "webs/walks": "size ties valencies is_regular is_joined distance walks __eq__ __str__",
    "kin/families": """
words subsets subspaces forms most points valencies multiplicities eigenvalue first_rows number counts ball ball_zeros
perfect_fault __eq__ __str__
""",
    "use/desk": """
put unite toggle drop rename fuse shuffle demand waive undo redo trial during twin lot_named scheme names lines pledges changes
__contains__ __len__ __iter__ __eq__ __str__
""",
}
BARRED_STARTS = ("_wall", "_pe_", "_dcw_", "_enum_", "_cm_", "_twin_re_", "_lay_", "_law_", "_stub_", "_sre", "_WallAttr")


def tree_of(path):
    return ast.parse(path.read_text())


def bound_names(tree):
    """All names that a file gives to functions, classes, parameters and variables."""
    for node in ast.walk(tree):
        if isinstance(node, ast.FunctionDef | ast.ClassDef):
            yield node.name
        elif isinstance(node, ast.arg):
            yield node.arg
        elif isinstance(node, ast.Name) and isinstance(node.ctx, ast.Store):
            yield node.id


def imported_names(tree):
    return [alias.name for node in tree.body if isinstance(node, ast.ImportFrom) for alias in node.names]


def assigned_names(body):
    return [target.id for node in body if isinstance(node, ast.Assign) for target in node.targets]


def names_of_loops(found):
    """The names to which a comprehension assigns."""
    return [name.id for loop in found.generators for name in ast.walk(loop.target) if isinstance(name, ast.Name)]


class Rules(unittest.TestCase):

    def each(self, kind):
        for path in FILES:
            for node in ast.walk(tree_of(path)):
                if isinstance(node, kind):
                    yield f"{path.name}:{getattr(node, 'lineno', 0)}", node

    def test_files(self):
        for path in PACKAGE.rglob("*"):
            if path.name != "__pycache__" and path.parent.name != "__pycache__":
                self.assertTrue(path.is_dir() or path.suffix == ".py", path)
            if path.is_dir() and path.name != "__pycache__":
                self.assertTrue((path / "__init__.py").exists(), path)
        for path in FILES:
            self.assertRegex(path.name, "^([a-z][a-z0-9_]*|__init__)[.]py$")
            text = path.read_text()
            self.assertTrue(all(" " <= letter <= "~" or letter == "\n" for letter in text), path)
            lines = text.split("\n")
            self.assertLessEqual(len(lines), 399, path)
            self.assertLessEqual(max(len(line) for line in lines), 120, path)

    def test_interface(self):
        for name, told in INTERFACE.items():
            body = tree_of(PACKAGE / f"{name}.py").body
            defined = [node.name for node in body if isinstance(node, ast.FunctionDef | ast.ClassDef)]
            self.assertEqual([word for word in told.split() if word not in defined], [], name)
        for name, told in CONSTANTS.items():
            named = assigned_names(tree_of(PACKAGE / f"{name}.py").body)
            self.assertEqual([word for word in told.split() if word not in named], [], name)
        for name, told in CLASSES.items():
            classes = [node for node in tree_of(PACKAGE / f"{name}.py").body if isinstance(node, ast.ClassDef)]
            classes = [node for node in classes if node.name in INTERFACE[name].split()]
            methods = [node.name for node in classes[0].body if isinstance(node, ast.FunctionDef)]
            self.assertEqual([word for word in told.split() if word not in methods], [], name)
            self.assertEqual((len(classes), len(methods)), (1, len(set(methods))))

    def test_statements(self):
        for place, node in self.each(ast.AST):
            self.assertIn(node.__class__.__name__, NODES, place)
        for place, node in self.each(ast.FunctionDef):
            self.assertLessEqual(node.end_lineno - node.lineno + 1, 40, place)
        for path in FILES:
            for node in tree_of(path).body:
                self.assertIsInstance(node, ast.Expr | ast.ImportFrom | ast.FunctionDef | ast.ClassDef | ast.Assign, path)
                self.assertTrue(not isinstance(node, ast.Expr) or isinstance(node.value, ast.Constant), path)
                if isinstance(node, ast.FunctionDef):
                    self.assertEqual(node.decorator_list, [], node.name)
                    self.assertFalse(any(isinstance(inner, ast.FunctionDef) for inner in ast.walk(node) if inner != node), node.name)

    def test_classes(self):
        for place, node in self.each(ast.ClassDef):
            for method in node.body:
                self.assertTrue(isinstance(method, ast.FunctionDef) or isinstance(method.value, ast.Constant), place)
            for method in [method for method in node.body if isinstance(method, ast.FunctionDef)]:
                self.assertTrue(all(mark.id in DECORATORS for mark in method.decorator_list), place)
                self.assertLessEqual(len(method.decorator_list), 1, place)
                first = method.args.args[0].arg
                self.assertEqual(first, "cls" if [mark.id for mark in method.decorator_list] == ["classmethod"] else "self", place)
                if method.decorator_list and first == "self" or method.name in QUIET:
                    # What a property or a special method runs is one row alone, which changes nothing.
                    rows = [row for row in method.body if not isinstance(row, ast.Expr)]
                    self.assertTrue(len(rows) == 1 and isinstance(rows[0], ast.Return), (place, method.name))
                if method.name == "__exit__":
                    # An attribute is kept by one name, and then only attributes are assigned to attributes.
                    rows = [(row.targets[0].__class__, row.value.__class__) for row in method.body]
                    self.assertEqual(rows, [(ast.Name, ast.Attribute)] + [(ast.Attribute, ast.Attribute)] * (len(rows) - 1), place)
                if method.name in ("__init__", "__exit__"):
                    self.assertFalse(any(isinstance(inner, ast.Return) for inner in ast.walk(method)), place)
        for place, node in self.each(ast.Assign):
            for target in [target for target in node.targets if isinstance(target, ast.Attribute)]:
                self.assertIsInstance(target.value, ast.Name, place)
        known = [name for path in FILES for name in bound_names(tree_of(path))] + METHODS
        known += [node.attr for _, node in self.each(ast.Attribute) if isinstance(node.ctx, ast.Store)]
        for place, node in self.each(ast.Attribute):
            self.assertIn(node.attr, known, place)

    def test_comprehensions(self):
        """A name of a comprehension inside another one means nothing else in the function."""
        kinds = ast.ListComp | ast.SetComp | ast.DictComp
        for place, node in self.each(ast.FunctionDef):
            found = [inner for inner in ast.walk(node) if isinstance(inner, kinds)]
            within = {id(name) for inner in found for name in ast.walk(inner)}
            stored = [name for name in ast.walk(node) if isinstance(name, ast.Name) and isinstance(name.ctx, ast.Store)]
            taken = [name.id for name in stored if id(name) not in within] + [argument.arg for argument in node.args.args]
            for inner in found:
                outer = [other for other in found if other is not inner and any(name is inner for name in ast.walk(other))]
                if outer:
                    further = [name for other in outer for name in names_of_loops(other)]
                    self.assertEqual([name for name in names_of_loops(inner) if name in taken + further], [], place)

    def test_sets(self):
        for path in FILES:
            tree = tree_of(path)
            allowed = []
            for node in ast.walk(tree):
                if isinstance(node, ast.Call) and isinstance(node.func, ast.Name) and node.func.id in ("sorted", "len"):
                    allowed += [id(argument) for argument in node.args]
            for node in ast.walk(tree):
                call = isinstance(node, ast.Call) and isinstance(node.func, ast.Name) and node.func.id == "set"
                if call or isinstance(node, ast.SetComp):
                    self.assertIn(id(node), allowed, f"{path.name}:{node.lineno}")

    def test_loops(self):
        """What a loop goes over is not changed in it."""
        for place, node in self.each(ast.For):
            over = [name.id for name in ast.walk(node.iter) if isinstance(name, ast.Name)]
            for inner in [inner for row in node.body for inner in ast.walk(row)]:
                if isinstance(inner, ast.Call) and isinstance(inner.func, ast.Attribute) and inner.func.attr in CHANGING:
                    self.assertNotIn(getattr(inner.func.value, "id", ""), over, place)
                if isinstance(inner, ast.Subscript) and isinstance(inner.ctx, ast.Store):
                    self.assertNotIn(getattr(inner.value, "id", ""), over, place)

    def test_imports(self):
        order = {}
        for path in FILES:
            tree = tree_of(path)
            names = imported_names(tree)
            self.assertEqual(len(names), len(set(names)), path)
            used = [node.id for node in ast.walk(tree) if isinstance(node, ast.Name)]
            self.assertEqual([name for name in names if name not in used], [], path)
            order[path] = []
            for node in [node for node in tree.body if isinstance(node, ast.ImportFrom)]:
                self.assertEqual([alias.asname for alias in node.names if alias.asname], [], path)
                if node.module in LIBRARY:
                    self.assertTrue(all(alias.name in LIBRARY[node.module] for alias in node.names), path)
                else:
                    target = PACKAGE.parent / (node.module.replace(".", "/") + ".py")
                    body = tree_of(target).body
                    defined = [found.name for found in body if hasattr(found, "name")] + assigned_names(body)
                    self.assertTrue(all(alias.name in defined for alias in node.names), path)
                    order[path].append(target)
        while order:
            free = [path for path in order if not any(target in order for target in order[path])]
            self.assertTrue(free, "files import one another")
            for path in free:
                del order[path]

    def test_names(self):
        for path in FILES:
            tree = tree_of(path)
            names = list(bound_names(tree))
            for name in names:
                self.assertTrue(name in SPECIAL or re.fullmatch("_?[A-Za-z][A-Za-z0-9_]*|_", name), (path, name))
                self.assertTrue(name in SPECIAL or not hasattr(builtins, name), (path, name))
                self.assertNotIn(name, BARRED_NAMES, path)
                self.assertNotIn(name, imported_names(tree), path)
                self.assertFalse(name.startswith(BARRED_STARTS), path)
            module = [node for node in tree.body if isinstance(node, ast.FunctionDef | ast.ClassDef)]
            known = [node.name for node in module] + imported_names(tree)
            known += [target.id for node in tree.body if isinstance(node, ast.Assign) for target in node.targets]
            self.assertEqual(len(known), len(set(known)), path)
            for node in ast.walk(tree):
                if isinstance(node, ast.Name) and isinstance(node.ctx, ast.Load) and node.id not in known + names:
                    self.assertIn(node.id, BUILTINS + ERROR_BASES + DECORATORS, path)
                if isinstance(node, ast.Name) and isinstance(node.ctx, ast.Load):
                    self.assertNotEqual(node.id, "_", path)

    def test_calls(self):
        own = [method.name for _, node in self.each(ast.ClassDef) for method in node.body if isinstance(method, ast.FunctionDef)]
        for place, node in self.each(ast.Call):
            if isinstance(node.func, ast.Attribute):
                self.assertIn(node.func.attr, METHODS + own, place)
            else:
                self.assertIsInstance(node.func, ast.Name, place)
            if isinstance(node.func, ast.Name) and node.func.id in BUILTINS:
                told = [(word.arg, getattr(word.value, "value", None)) for word in node.keywords]
                self.assertTrue(told == [] or node.func.id == "sorted" and told == [("reverse", True)], place)
            for argument in [argument for argument in node.args if isinstance(argument, ast.Starred)]:
                self.assertIsInstance(argument.value, ast.Name, place)
        for place, node in self.each(ast.Raise):
            self.assertTrue(isinstance(node.exc, ast.Call) and isinstance(node.exc.func, ast.Name), place)

    def test_values(self):
        for place, node in self.each(ast.Constant):
            self.assertIsInstance(node.value, int | str | None, place)
            if isinstance(node.value, str):
                self.assertNotIn("%", node.value, place)
                self.assertFalse(node.value.endswith(("._", ".__")), place)
        for place, node in self.each(ast.BinOp):
            if isinstance(node.op, ast.Pow):
                self.assertTrue(isinstance(node.right, ast.Constant) and 0 <= node.right.value <= 64, place)
        for place, node in self.each(ast.Compare):
            for sign, value in zip(node.ops, node.comparators):
                if isinstance(sign, ast.Is | ast.IsNot):
                    self.assertTrue(isinstance(value, ast.Constant) and not isinstance(value.value, str), place)

    def test_words(self):
        for path in FILES:
            tree = tree_of(path)
            words = [node.id for node in ast.walk(tree) if isinstance(node, ast.Name)]
            words += [node.attr for node in ast.walk(tree) if isinstance(node, ast.Attribute)] + list(bound_names(tree))
            for node in ast.walk(tree):
                if isinstance(node, ast.Constant) and isinstance(node.value, str):
                    words += re.findall("[A-Za-z_]+", node.value)
            self.assertEqual([word for word in words if word in BARRED_WORDS], [], path)


if __name__ == "__main__":
    unittest.main()

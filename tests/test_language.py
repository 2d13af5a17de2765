"""The package's files keep to the part of Python that is asked for: the rules that can be seen in the text."""

import ast
import builtins
import pathlib
import re
import unittest

PACKAGE = pathlib.Path(__file__).resolve().parent.parent / "coinpictures"

NODES = {
    "Module", "FunctionDef", "ClassDef", "arguments", "arg", "Lambda", "ImportFrom", "alias", "Expr",
    "Assign", "AugAssign", "If", "While", "For", "Return", "Break", "Continue", "Pass", "Raise",
    "Constant", "List", "Tuple", "Dict", "Name", "Attribute", "Subscript", "Slice", "Call", "keyword",
    "BinOp", "UnaryOp", "BoolOp", "Compare", "IfExp", "ListComp", "comprehension", "Load", "Store",
    "Add", "Sub", "Mult", "FloorDiv", "Mod", "USub", "And", "Or", "Not",
    "Eq", "NotEq", "Lt", "LtE", "Gt", "GtE", "In", "NotIn", "Is", "IsNot",
}
PYTHONS_NAMES = set(
    "len range enumerate zip min max sum abs sorted reversed int str bool list tuple dict set frozenset isinstance "
    "ord repr any all divmod Exception ValueError TypeError KeyError IndexError LookupError ZeroDivisionError "
    "ArithmeticError OverflowError RuntimeError NotImplementedError StopIteration".split())
PYTHONS_METHODS = set(
    "append clear copy count endswith extend find get index insert isalnum isalpha isdigit islower isspace isupper "
    "items join keys ljust lower lstrip partition pop remove replace reverse rfind rjust rpartition rsplit rstrip "
    "setdefault split splitlines startswith strip update upper values zfill bit_length".split())
METHODS_OF_PYTHON = {name for kind in (str, int, list, dict, set, bytes, tuple) for name in vars(kind)
                     if not name.startswith("__")}
WORDS = re.compile(
    r"\b(type|typing|typing_extensions|enum|Enum|IntEnum|StrEnum|Flag|IntFlag|Generic|Protocol|ABC|ABCMeta|namedtuple"
    r"|NamedTuple|TypedDict|TYPE_CHECKING|abstractmethod)\b|dataclass|overload|contextmanager")


def files():
    return sorted(PACKAGE.glob("*.py"))


TREES = [(path.name, ast.parse(path.read_text(encoding="utf-8"))) for path in files()]


def nodes(*kinds):
    for name, tree in TREES:
        for node in ast.walk(tree):
            if isinstance(node, kinds):
                yield f"{name}:{getattr(node, 'lineno', 0)}", node


class Files(unittest.TestCase):
    def test_the_folder_holds_python_files_alone(self):
        names = sorted(path.name for path in PACKAGE.iterdir() if path.name != "__pycache__")
        self.assertEqual(names, [path.name for path in files()])
        self.assertIn("__init__.py", names)
        for name in names:
            self.assertRegex(name, r"^([a-z][a-z0-9_]*|__init__|__main__)\.py$")
            self.assertFalse(name[:-3] in vars(builtins) or name.startswith("test"), name)

    def test_signs_and_lengths(self):
        for path in files():
            text = path.read_bytes()
            self.assertTrue(all(sign == 10 or 32 <= sign <= 126 for sign in text), path.name)
            rows = text.decode("ascii").split("\n")
            self.assertLessEqual(len(rows), 400)
            for row in rows:
                self.assertLessEqual(len(row), 120)
                self.assertIsNone(WORDS.search(row), row)

    def test_functions_have_at_most_40_lines(self):
        for place, node in nodes(ast.FunctionDef):
            self.assertLessEqual(node.end_lineno - node.lineno + 1, 40, place)


class Forms(unittest.TestCase):
    def test_only_the_forms_that_are_allowed(self):
        for place, node in nodes(ast.AST):
            self.assertIn(type(node).__name__, NODES, place)

    def test_a_text_by_itself_stands_at_a_files_top_alone(self):
        for name, tree in TREES:
            inner = [node for row in tree.body[1:] for node in ast.walk(row)]
            for node in inner:
                if isinstance(node, ast.Expr):
                    self.assertIsInstance(node.value, ast.Call, f"{name}:{node.lineno}")

    def test_imports_are_the_packages_own(self):
        for place, node in nodes(ast.ImportFrom):
            self.assertEqual(node.level, 0, place)
            self.assertTrue(node.module.startswith("coinpictures."), place)
            self.assertTrue(all(alias.name != "*" for alias in node.names), place)

    def test_plain_functions_and_classes(self):
        for place, node in nodes(ast.FunctionDef):
            told = node.args
            self.assertFalse(node.decorator_list or node.returns or told.vararg or told.kwarg or told.kwonlyargs
                             or told.posonlyargs or any(arg.annotation for arg in told.args), place)
        for place, node in nodes(ast.ClassDef):
            self.assertFalse(node.decorator_list or node.keywords or len(node.bases) > 1, place)
            self.assertTrue(all(isinstance(part, ast.FunctionDef) for part in node.body), place)

    def test_one_target_no_else_behind_a_loop(self):
        for place, node in nodes(ast.Assign):
            self.assertEqual(len(node.targets), 1, place)
            self.assertNotIsInstance(node.targets[0], (ast.Tuple, ast.List), place)
        for place, node in nodes(ast.For, ast.While):
            self.assertFalse(node.orelse, place)
        for place, node in nodes(ast.ListComp):
            self.assertTrue(len(node.generators) == 1 and len(node.generators[0].ifs) <= 1, place)

    def test_plain_values(self):
        for place, node in nodes(ast.Constant):
            self.assertTrue(node.value is None or type(node.value) in (int, str, bool), place)

    def test_is_stands_beside_none_true_and_false(self):
        for place, node in nodes(ast.Compare):
            for operator, right in zip(node.ops, node.comparators):
                if isinstance(operator, (ast.Is, ast.IsNot)):
                    self.assertIsInstance(right, ast.Constant, place)

    def test_a_files_top_binds_each_name_once(self):
        for name, tree in TREES:
            bound = []
            for row in tree.body[1:]:
                self.assertIsInstance(row, (ast.ImportFrom, ast.FunctionDef, ast.ClassDef, ast.Assign), name)
                if isinstance(row, ast.ImportFrom):
                    bound += [alias.asname or alias.name for alias in row.names]
                else:
                    bound.append(row.targets[0].id if isinstance(row, ast.Assign) else row.name)
            self.assertEqual(len(bound), len(set(bound)), name)


class Names(unittest.TestCase):
    def test_names_are_plain_and_not_pythons(self):
        for place, node in nodes(ast.Name, ast.arg, ast.FunctionDef, ast.ClassDef):
            name = getattr(node, "id", None) or getattr(node, "arg", None) or node.name
            if name == "__init__" and isinstance(node, ast.FunctionDef):
                continue
            self.assertRegex(name, r"^[A-Za-z][A-Za-z0-9_]*$", place)
            if isinstance(node, ast.Name) and isinstance(node.ctx, ast.Load):
                self.assertTrue(name in PYTHONS_NAMES or not hasattr(builtins, name), f"{place} {name}")
            else:
                self.assertFalse(hasattr(builtins, name), f"{place} {name}")

    def test_methods_and_values_of_objects(self):
        methods = {part.name for place, node in nodes(ast.ClassDef) for part in node.body}
        called = {id(node.func) for place, node in nodes(ast.Call)}
        values = set()
        for place, node in nodes(ast.Attribute):
            self.assertRegex(node.attr, r"^[a-z][a-z0-9_]*$", place)
            if id(node) not in called:
                values.add(node.attr)
        self.assertFalse(values & METHODS_OF_PYTHON)
        self.assertFalse((methods - {"__init__"}) & METHODS_OF_PYTHON)

    def test_values_are_given_through_a_local_name(self):
        for place, node in nodes(ast.Attribute):
            if isinstance(node.ctx, ast.Store):
                self.assertIsInstance(node.value, ast.Name, place)

    def test_no_name_is_a_method_here_and_a_value_there(self):
        methods = {part.name for place, node in nodes(ast.ClassDef) for part in node.body}
        given = {node.attr for place, node in nodes(ast.Attribute) if isinstance(node.ctx, ast.Store)}
        self.assertFalse(methods & given)

    def test_called_methods_are_own_or_allowed(self):
        methods = {part.name for place, node in nodes(ast.ClassDef) for part in node.body}
        for place, node in nodes(ast.Call):
            if isinstance(node.func, ast.Attribute):
                self.assertIn(node.func.attr, methods | PYTHONS_METHODS, place)


if __name__ == "__main__":
    unittest.main()

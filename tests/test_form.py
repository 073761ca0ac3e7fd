"""The package's files beside the rules of the language it keeps to, as far as they can be read off."""

import ast
import pathlib
import re
import unittest

TOP = pathlib.Path(__file__).resolve().parent.parent
PACKAGE = TOP / "markgroups"
FILES = sorted(PACKAGE.rglob("*.py"))

OWN_NAMES = set(
    "len range enumerate zip min max sum abs sorted reversed int str bool list tuple dict set frozenset isinstance "
    "ord repr any all divmod Exception ValueError TypeError KeyError IndexError LookupError ZeroDivisionError "
    "ArithmeticError OverflowError RuntimeError NotImplementedError StopIteration".split()
)
PYTHONS_NAMES = set(__builtins__ if isinstance(__builtins__, dict) else dir(__builtins__))
METHODS = set(
    "append clear copy count endswith extend find get index insert isalnum isalpha isdigit islower isspace isupper "
    "items join keys ljust lower lstrip partition pop remove replace reverse rfind rjust rpartition rsplit rstrip "
    "setdefault split splitlines startswith strip update upper values zfill bit_length".split()
)
WORDS_OUT = (
    r"\b(type|typing|typing_extensions|enum|Enum|IntEnum|StrEnum|Flag|IntFlag|Generic|Protocol|ABC|ABCMeta|"
    r"namedtuple|NamedTuple|TypedDict|TYPE_CHECKING|abstractmethod)\b|dataclass|overload|contextmanager"
)
NAMES_OUT = set(
    "register mro elements open input version_info with_traceback add_note attrgetter breakpoint builtins compile "
    "copyright credits delattr dir eval exec exit gc getattr globals hasattr help id importlib license locals "
    "methodcaller os quit setattr super type vars sys format format_map".split()
)
NODES = set(
    "Module Expr Constant ImportFrom alias FunctionDef arguments arg Lambda ClassDef Assign AugAssign If While For "
    "Return Break Continue Pass Raise Try ExceptHandler Call Name Load Store Attribute Subscript Slice List Tuple "
    "Dict Set BinOp UnaryOp BoolOp Compare IfExp ListComp comprehension JoinedStr FormattedValue keyword Add Sub "
    "Mult FloorDiv Mod Pow BitAnd BitOr BitXor LShift RShift Invert USub UAdd Not And Or Eq NotEq Lt LtE Gt GtE Is "
    "IsNot In NotIn".split()
)
AT_TOP = (ast.ImportFrom, ast.FunctionDef, ast.ClassDef, ast.Assign)


def bound_names(tree):
    """Each name that is bound anywhere in a file, with its line."""
    for node in ast.walk(tree):
        if isinstance(node, ast.Name) and isinstance(node.ctx, ast.Store):
            yield node.id, node.lineno
        elif isinstance(node, ast.arg):
            yield node.arg, node.lineno
        elif isinstance(node, (ast.FunctionDef, ast.ClassDef)):
            yield node.name, node.lineno


def is_docstring(node):
    return isinstance(node, ast.Expr) and isinstance(node.value, ast.Constant) and isinstance(node.value.value, str)


class Form(unittest.TestCase):
    def each_tree(self):
        for path in FILES:
            with self.subTest(file=path.name):
                yield path, ast.parse(path.read_text(encoding="utf-8"))

    def each_node(self):
        for path, tree in self.each_tree():
            for node in ast.walk(tree):
                yield f"{path.name}:{getattr(node, 'lineno', 0)}", node

    def test_files(self):
        self.assertIn(PACKAGE / "table.py", FILES)
        self.assertIn(PACKAGE / "__init__.py", FILES)
        others = [path for path in PACKAGE.rglob("*") if path not in FILES and "__pycache__" not in path.parts]
        self.assertEqual(others, [])
        for path in FILES:
            self.assertRegex(path.name, r"^([a-z][a-z0-9_]*|__init__)\.py$")
            self.assertNotRegex(path.stem, r"^(tests?|testing|test_.*|site|conftest|\w+customize)$")
            self.assertNotIn(path.stem, PYTHONS_NAMES)

    def test_signs_and_size(self):
        for path in FILES:
            text = path.read_text(encoding="utf-8")
            self.assertRegex(text, r"\A[ -~\n]*\Z", path.name)
            self.assertIsNone(re.search(WORDS_OUT, text), path.name)
            rows = text.split("\n")
            self.assertLessEqual(len(rows), 400, path.name)
            self.assertLessEqual(max(len(row) for row in rows), 120, path.name)

    def test_kinds_of_nodes(self):
        for place, node in self.each_node():
            self.assertIn(type(node).__name__, NODES, place)

    def test_top_of_a_file(self):
        for path, tree in self.each_tree():
            self.assertTrue(is_docstring(tree.body[0]), path.name)
            for node in tree.body[1:]:
                self.assertIsInstance(node, AT_TOP, f"{path.name}:{node.lineno}")
            bound = [node.targets[0].id for node in tree.body if isinstance(node, ast.Assign)]
            bound += [node.name for node in tree.body if isinstance(node, (ast.FunctionDef, ast.ClassDef))]
            bound += [name.name for node in tree.body if isinstance(node, ast.ImportFrom) for name in node.names]
            self.assertEqual(len(bound), len(set(bound)), path.name)

    def test_imports(self):
        for place, node in self.each_node():
            if isinstance(node, ast.ImportFrom):
                self.assertEqual(node.level, 0, place)
                self.assertTrue(node.module.startswith("markgroups."), place)
                self.assertNotIn("*", [name.name for name in node.names], place)

    def test_imports_go_in_no_circle(self):
        drawn_from = {
            path.stem: [node.module.split(".")[-1] for node in ast.walk(tree) if isinstance(node, ast.ImportFrom)]
            for path, tree in self.each_tree()
        }
        while drawn_from:
            free = [name for name in drawn_from if not any(other in drawn_from for other in drawn_from[name])]
            self.assertTrue(free, drawn_from)
            for name in free:
                drawn_from.pop(name)

    def test_functions(self):
        for place, node in self.each_node():
            if isinstance(node, ast.FunctionDef):
                self.assertLessEqual(node.end_lineno - node.lineno + 1, 40, place)
                self.assertEqual(node.decorator_list, [], place)
                self.assertIsNone(node.args.vararg or node.args.kwarg, place)
                self.assertEqual(node.args.kwonlyargs + node.args.posonlyargs, [], place)

    def test_classes(self):
        for place, node in self.each_node():
            if isinstance(node, ast.ClassDef):
                self.assertEqual(node.decorator_list + node.keywords, [], place)
                self.assertLessEqual(len(node.bases), 1, place)
                for inner in node.body:
                    self.assertTrue(is_docstring(inner) or isinstance(inner, (ast.FunctionDef, ast.Pass)), place)

    def test_statements(self):
        for place, node in self.each_node():
            if isinstance(node, ast.Assign):
                self.assertEqual(len(node.targets), 1, place)
            elif isinstance(node, (ast.For, ast.While)):
                self.assertEqual(node.orelse, [], place)
            elif isinstance(node, ast.Try):
                self.assertEqual(node.finalbody, [], place)
            elif isinstance(node, ast.Expr):
                self.assertTrue(is_docstring(node) or isinstance(node.value, ast.Call), place)

    def test_values(self):
        for place, node in self.each_node():
            if isinstance(node, ast.Constant):
                self.assertIsInstance(node.value, (int, str, type(None)), place)
            elif isinstance(node, ast.BinOp) and isinstance(node.op, ast.Pow):
                self.assertIsInstance(node.right, ast.Constant, place)
            elif isinstance(node, ast.Compare) and isinstance(node.ops[0], (ast.Is, ast.IsNot)):
                self.assertIsInstance(node.comparators[0], ast.Constant, place)
            elif isinstance(node, ast.ListComp):
                self.assertEqual(len(node.generators), 1, place)
                self.assertLessEqual(len(node.generators[0].ifs), 1, place)

    def test_bound_names(self):
        for path, tree in self.each_tree():
            for name, line in bound_names(tree):
                place = f"{path.name}:{line} {name}"
                self.assertTrue(name == "__init__" or re.fullmatch(r"[A-Za-z][A-Za-z0-9_]*", name), place)
                self.assertNotIn(name, PYTHONS_NAMES, place)
                self.assertNotIn(name, NAMES_OUT, place)

    def test_read_names(self):
        for path, tree in self.each_tree():
            known = {name for name, line in bound_names(tree)}
            known |= {name.name for node in tree.body if isinstance(node, ast.ImportFrom) for name in node.names}
            for node in ast.walk(tree):
                if isinstance(node, ast.Name):
                    self.assertIn(node.id, known | OWN_NAMES, f"{path.name}:{node.lineno}")

    def test_methods(self):
        own = {node.name for place, node in self.each_node() if isinstance(node, ast.FunctionDef)}
        for place, node in self.each_node():
            if isinstance(node, ast.Attribute):
                self.assertNotIn(node.attr, NAMES_OUT, place)
            if isinstance(node, ast.Call) and isinstance(node.func, ast.Attribute):
                self.assertIn(node.func.attr, METHODS | own, place)


if __name__ == "__main__":
    unittest.main()

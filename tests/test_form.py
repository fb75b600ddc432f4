"""The form of the code: the rules that can be seen from a file's text and its tree."""

import ast
import pathlib
import re
import unittest

PACKAGE = pathlib.Path(__file__).resolve().parent.parent / "chipchain"

BUILT_IN = """
    len range enumerate zip min max sum abs sorted reversed int str bool list tuple dict set frozenset isinstance
    ord repr any all divmod Exception ValueError TypeError KeyError IndexError LookupError ZeroDivisionError
    ArithmeticError OverflowError RuntimeError NotImplementedError AttributeError StopIteration
""".split()

METHODS = """
    append clear copy count endswith extend find get index insert isalnum isalpha isdigit islower isspace isupper
    items join keys ljust lower lstrip partition pop remove replace reverse rfind rjust rpartition rsplit rstrip
    setdefault split splitlines startswith strip update upper values zfill bit_length
""".split()

NODES = """
    Module Expr Constant Assign AugAssign FunctionDef arguments arg ClassDef Return If While For Break Continue Pass
    Name Load Store Attribute Subscript Slice Call keyword Tuple List Dict ListComp comprehension IfExp Lambda
    BinOp Add Sub Mult FloorDiv Mod Pow LShift RShift BitAnd BitOr BitXor UnaryOp USub Invert Not BoolOp And Or
    Compare Eq NotEq Lt LtE Gt GtE In NotIn Is IsNot ImportFrom alias Raise Try ExceptHandler JoinedStr FormattedValue
""".split()

NO_WORDS = """
    type typing typing_extensions enum Enum IntEnum StrEnum Flag IntFlag Generic Protocol ABC ABCMeta namedtuple
    NamedTuple TypedDict TYPE_CHECKING abstractmethod
""".split()

NO_NAMES = """
    register mro elements open input version_info with_traceback add_note attrgetter breakpoint builtins compile
    copyright credits delattr dir eval exec exit gc getattr globals hasattr help id importlib license locals
    methodcaller os quit setattr super type vars sys print chr hash next map
""".split()


def files():
    return sorted(path for path in PACKAGE.rglob("*") if "__pycache__" not in path.parts)


def tree_of(path):
    return ast.parse(path.read_text(encoding="utf-8"))


def bound_names(tree):
    """Every name that is given a meaning in a file: by an assignment, a def, a class, a parameter."""
    names = set()
    for node in ast.walk(tree):
        if isinstance(node, (ast.FunctionDef, ast.ClassDef)):
            names.add(node.name)
        elif isinstance(node, ast.arg):
            names.add(node.arg)
        elif isinstance(node, ast.Name) and isinstance(node.ctx, ast.Store):
            names.add(node.id)
    return names


class Files(unittest.TestCase):
    def test_nothing_but_modules_lies_in_the_package(self):
        self.assertEqual([path.name for path in files()], ["__init__.py", "board.py"])

    def test_signs_and_sizes(self):
        for path in files():
            text = path.read_text(encoding="utf-8")
            self.assertEqual(re.findall("[^ -~\n]", text), [])
            rows = text.split("\n")
            self.assertLessEqual(len(rows), 400)
            self.assertLessEqual(max(len(row) for row in rows), 120)

    def test_words_that_stand_nowhere(self):
        for path in files():
            text = path.read_text(encoding="utf-8")
            self.assertEqual([word for word in NO_WORDS if re.search(rf"\b{word}\b", text)], [])
            self.assertEqual([word for word in ("dataclass", "overload", "contextmanager") if word in text], [])


class Trees(unittest.TestCase):
    def test_only_the_allowed_forms(self):
        for path in files():
            used = {node.__class__.__name__ for node in ast.walk(tree_of(path))}
            self.assertEqual(sorted(used - set(NODES)), [])

    def test_nothing_is_imported(self):
        for path in files():
            imports = [node for node in ast.walk(tree_of(path)) if isinstance(node, (ast.Import, ast.ImportFrom))]
            self.assertEqual(imports, [])

    def test_functions_are_small_and_plain(self):
        for path in files():
            for node in ast.walk(tree_of(path)):
                if isinstance(node, ast.FunctionDef):
                    self.assertLessEqual(node.end_lineno - node.lineno + 1, 40, node.name)
                    self.assertEqual(node.decorator_list, [])
                    plain = node.args
                    self.assertFalse(plain.vararg or plain.kwarg or plain.kwonlyargs or plain.posonlyargs)

    def test_names(self):
        for path in files():
            tree = tree_of(path)
            bound = bound_names(tree)
            read = {node.id for node in ast.walk(tree) if isinstance(node, ast.Name)}
            kept = {node.attr for node in ast.walk(tree) if isinstance(node, ast.Attribute)}
            self.assertEqual(sorted(read - bound - set(BUILT_IN)), [])
            self.assertEqual(sorted(bound & set(BUILT_IN)), [])
            self.assertEqual(sorted((read | bound | kept) & set(NO_NAMES)), [])
            self.assertEqual([name for name in sorted(read | bound | kept) if name[0] == "_" and name != "__init__"], [])

    def test_methods(self):
        for path in files():
            tree = tree_of(path)
            own = bound_names(tree)
            called = {
                node.func.attr for node in ast.walk(tree)
                if isinstance(node, ast.Call) and isinstance(node.func, ast.Attribute)
            }
            self.assertEqual(sorted(called - own - set(METHODS)), [])

    def test_no_name_is_a_method_and_a_value(self):
        methods = set()
        values = set()
        for path in files():
            for node in ast.walk(tree_of(path)):
                if isinstance(node, ast.ClassDef):
                    methods |= {part.name for part in node.body if isinstance(part, ast.FunctionDef)}
                if isinstance(node, ast.Attribute) and isinstance(node.ctx, ast.Store):
                    values.add(node.attr)
        self.assertEqual(sorted(methods & values), [])

    def test_one_target_and_no_annotation(self):
        for path in files():
            for node in ast.walk(tree_of(path)):
                if isinstance(node, ast.Assign):
                    self.assertEqual(len(node.targets), 1)
                if isinstance(node, (ast.For, ast.While)):
                    self.assertEqual(node.orelse, [])
                if isinstance(node, ast.arg):
                    self.assertIsNone(node.annotation)


if __name__ == "__main__":
    unittest.main()

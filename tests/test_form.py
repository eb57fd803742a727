"""The package's files keep to the small part of Python that the program is written in."""

import ast
import builtins
import pathlib
import re
import unittest

PACKAGE = pathlib.Path(__file__).resolve().parent.parent / "textends"

KINDS = set("""
    Module Expr Constant ImportFrom alias FunctionDef arguments arg ClassDef Lambda
    Assign AugAssign If While For Return Break Continue Pass Raise Try ExceptHandler
    Name Load Store Attribute Subscript Slice Call keyword List Tuple Dict ListComp comprehension
    BinOp Add Sub Mult FloorDiv Mod Pow LShift RShift BitOr BitXor BitAnd
    UnaryOp USub Not Invert BoolOp And Or IfExp JoinedStr FormattedValue
    Compare Eq NotEq Lt LtE Gt GtE In NotIn Is IsNot
""".split())

BUILT_IN = set("""
    len range enumerate zip min max sum abs sorted reversed int str bool list tuple dict set frozenset isinstance
    ord repr any all divmod Exception ValueError TypeError KeyError IndexError LookupError ZeroDivisionError
    ArithmeticError OverflowError RuntimeError NotImplementedError AttributeError StopIteration
""".split())

METHODS = set("""
    append clear copy count endswith extend find get index insert isalnum isalpha isdigit islower isspace isupper
    items join keys ljust lower lstrip partition pop remove replace reverse rfind rjust rpartition rsplit rstrip
    setdefault split splitlines startswith strip update upper values zfill bit_length
""".split())

TWO_UNDERSCORES = {"__init__", "__eq__", "__repr__", "__str__", "__len__"}

NO_NAMES = set("""
    register mro elements open input version_info with_traceback add_note attrgetter breakpoint builtins compile
    copyright credits delattr dir eval exec exit gc getattr globals hasattr help id importlib license locals
    methodcaller os quit setattr super type vars sys format format_map
""".split())

NO_WORDS = re.compile(r"\b(type|typing|typing_extensions|enum|Enum|IntEnum|StrEnum|Flag|IntFlag|Generic|Protocol|ABC|"
                      r"ABCMeta|namedtuple|NamedTuple|TypedDict|TYPE_CHECKING|abstractmethod)\b"
                      r"|dataclass|overload|contextmanager")


def files():
    return sorted(PACKAGE.glob("*.py"))


def tree_of(file):
    return ast.parse(file.read_text(encoding="utf-8"))


def nodes(kind):
    return [(file.name, node) for file in files() for node in ast.walk(tree_of(file)) if isinstance(node, kind)]


def bound_at_top(tree):
    names = []
    for row in tree.body:
        if isinstance(row, (ast.FunctionDef, ast.ClassDef)):
            names.append(row.name)
        elif isinstance(row, ast.Assign):
            names.extend(target.id for target in row.targets)
        elif isinstance(row, ast.ImportFrom):
            names.extend(alias.asname or alias.name for alias in row.names)
    return names


class Form(unittest.TestCase):
    def test_the_folder_holds_plain_files_alone(self):
        names = [entry.name for entry in PACKAGE.iterdir() if entry.name != "__pycache__"]
        self.assertIn("__init__.py", names)
        self.assertIn("ends.py", names)
        for name in names:
            self.assertRegex(name, r"^(__init__|__main__|[a-z][a-z0-9_]*)\.py$")

    def test_size_and_signs(self):
        for file in files():
            text = file.read_bytes().decode("ascii")
            self.assertRegex(text, r"\A[ -~\n]*\Z", file.name)
            self.assertIsNone(NO_WORDS.search(text), file.name)
            self.assertLessEqual(len(text.splitlines()), 400, file.name)
            self.assertLessEqual(max(len(row) for row in text.splitlines()), 120, file.name)
        for name, node in nodes(ast.FunctionDef):
            self.assertLessEqual(node.end_lineno - node.lineno + 1, 40, (name, node.name))

    def test_kinds_of_rows_and_values(self):
        for name, node in nodes(ast.AST):
            self.assertIn(type(node).__name__, KINDS, (name, getattr(node, "lineno", None)))
        for name, node in nodes(ast.Constant):
            self.assertIn(type(node.value), (int, str, bool, type(None)), (name, node.lineno))
        for name, node in nodes(ast.Assign):
            self.assertEqual(len(node.targets), 1, (name, node.lineno))
            self.assertNotIsInstance(node.targets[0], (ast.Tuple, ast.List), (name, node.lineno))
        for name, node in nodes((ast.For, ast.While)):
            self.assertEqual(node.orelse, [], (name, node.lineno))

    def test_the_top_of_each_file(self):
        for file in files():
            tree = tree_of(file)
            self.assertIsNotNone(ast.get_docstring(tree), file.name)
            for row in tree.body[1:]:
                self.assertIsInstance(row, (ast.ImportFrom, ast.FunctionDef, ast.ClassDef, ast.Assign), file.name)
                if isinstance(row, ast.Assign):
                    ast.literal_eval(row.value)
            names = bound_at_top(tree)
            self.assertEqual(len(names), len(set(names)), file.name)

    def test_imports(self):
        drawn = {file.stem: [] for file in files()}
        for name, node in nodes(ast.ImportFrom):
            self.assertEqual(node.level, 0, name)
            self.assertRegex(node.module, r"^textends\.[a-z][a-z0-9_]*$", name)
            source = node.module.split(".")[1]
            drawn[name[:-3]].append(source)
            defined = bound_at_top(tree_of(PACKAGE / f"{source}.py"))
            for alias in node.names:
                self.assertIn(alias.name, defined, name)
        self.assertEqual(drawn["__init__"], [])
        while drawn:
            free = [stem for stem in drawn if not any(source in drawn for source in drawn[stem])]
            self.assertNotEqual(free, [], f"these draw from one another: {sorted(drawn)}")
            for stem in free:
                drawn.pop(stem)

    def test_names(self):
        for name, node in nodes((ast.Name, ast.arg, ast.FunctionDef, ast.ClassDef, ast.Attribute)):
            word = next(getattr(node, field) for field in ("id", "arg", "name", "attr") if hasattr(node, field))
            where = (name, node.lineno, word)
            self.assertNotIn(word, NO_NAMES, where)
            if word not in TWO_UNDERSCORES:
                self.assertRegex(word, r"^[A-Za-z][A-Za-z0-9_]*$", where)
            if isinstance(node, ast.Name) and isinstance(node.ctx, ast.Load) and hasattr(builtins, word):
                self.assertIn(word, BUILT_IN, where)
            if isinstance(node, ast.arg) or (isinstance(node, ast.Name) and isinstance(node.ctx, ast.Store)):
                self.assertFalse(hasattr(builtins, word), where)

    def test_methods(self):
        own = {node.name for name, made in nodes(ast.ClassDef) for node in made.body
               if isinstance(node, ast.FunctionDef)}
        values = {node.attr for name, node in nodes(ast.Attribute) if isinstance(node.ctx, ast.Store)}
        self.assertEqual(own & values, set())
        for name, node in nodes(ast.Call):
            if isinstance(node.func, ast.Attribute):
                self.assertIn(node.func.attr, own | METHODS, (name, node.lineno))
        for name, node in nodes((ast.FunctionDef, ast.ClassDef)):
            self.assertEqual(node.decorator_list, [], (name, node.lineno))
        for name, node in nodes(ast.arguments):
            self.assertEqual((node.vararg, node.kwarg, node.kwonlyargs, node.posonlyargs), (None, None, [], []), name)


if __name__ == "__main__":
    unittest.main()

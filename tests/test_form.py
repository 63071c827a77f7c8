"""The form of the package's own files, as far as it can be told from what is written."""

import ast
import builtins
import pathlib
import re
import unittest
import warnings

PACKAGE = pathlib.Path(__file__).resolve().parent.parent / "barfloors"
FILES = sorted(PACKAGE.glob("*.py"))

OWN_NAMES = set("""
    len range enumerate zip min max sum abs sorted reversed int str bool bytes list tuple dict set frozenset isinstance
    ord repr any all divmod Exception ValueError TypeError KeyError IndexError LookupError ZeroDivisionError
    ArithmeticError OverflowError RuntimeError NotImplementedError AttributeError StopIteration
""".split())
METHODS = {"__init__", "__eq__", "__repr__", "__str__", "__len__"}
PARTS = set("""
    Module ImportFrom alias FunctionDef arguments arg ClassDef Return Delete Assign AugAssign For While If Raise Try
    ExceptHandler Assert Expr Pass Break Continue BoolOp BinOp UnaryOp Lambda IfExp Dict Set ListComp SetComp DictComp
    Compare Call FormattedValue JoinedStr Constant Attribute Subscript Starred Name List Tuple Slice Load Store Del
    comprehension keyword And Or Not USub UAdd Invert Add Sub Mult FloorDiv Mod Pow LShift RShift BitOr BitXor BitAnd
    Eq NotEq Lt LtE Gt GtE Is IsNot In NotIn
""".split())
WORDS = re.compile(
    r"\b(type|typing|typing_extensions|enum|Enum|IntEnum|StrEnum|Flag|IntFlag|Generic|Protocol|ABC|ABCMeta|namedtuple"
    r"|NamedTuple|TypedDict|TYPE_CHECKING|abstractmethod)\b|dataclass|overload|contextmanager")
# The methods of Python's own values that the package calls, of those that it may call.
CALLED = set("add append get index items join partition pop split bit_length".split())
UNUSED_NAMES = set("""
    register mro elements open input version_info with_traceback add_note format format_map attrgetter breakpoint
    builtins compile copyright credits delattr dir eval exec exit gc getattr globals hasattr help id importlib license
    locals methodcaller os quit setattr super vars sys chr
""".split())


def bound_at_top(tree):
    names = []
    for row in tree.body:
        if isinstance(row, (ast.FunctionDef, ast.ClassDef)):
            names.append(row.name)
        elif isinstance(row, ast.Assign):
            names += [target.id for target in row.targets]
    return names


def drawn_by(tree):
    return [(row.module, alias.name, alias.asname) for row in tree.body if isinstance(row, ast.ImportFrom)
            for alias in row.names]


def names_in(tree):
    """All names that are written: read, given, of defs, parameters, keywords, values and methods."""
    for part in ast.walk(tree):
        for field in ("id", "name", "arg", "attr"):
            name = getattr(part, field, None)
            if isinstance(name, str) and not isinstance(part, ast.alias):
                yield name


class Form(unittest.TestCase):
    @classmethod
    def setUpClass(cls):
        cls.texts = {path.stem: path.read_bytes().decode("ascii") for path in FILES}
        cls.trees = {name: ast.parse(text) for name, text in cls.texts.items()}

    def each_part(self, *kinds):
        for name, tree in self.trees.items():
            for part in ast.walk(tree):
                if isinstance(part, kinds):
                    yield name, part

    def test_files(self):
        self.assertIn("__init__", self.texts)
        for path in PACKAGE.iterdir():
            if path.name != "__pycache__":
                self.assertRegex(path.name, r"\A([a-z][a-z0-9_]*|__init__|__main__)\.py\Z")

    def test_sizes_and_signs(self):
        for name, text in self.texts.items():
            lines = text.split("\n")
            self.assertLessEqual(len(lines), 400, name)
            self.assertLessEqual(max(len(line) for line in lines), 120, name)
            self.assertRegex(text, r"\A[ -~\n]*\Z", name)
            self.assertIsNone(WORDS.search(text), name)
        for name, part in self.each_part(ast.FunctionDef):
            self.assertLessEqual(part.end_lineno - part.lineno + 1, 40, (name, part.name))

    def test_reading_warns_of_nothing(self):
        with warnings.catch_warnings():
            warnings.simplefilter("error")
            for name, text in self.texts.items():
                compile(text, name, "exec")

    def test_parts_of_the_language(self):
        for name, part in self.each_part(ast.AST):
            self.assertIn(part.__class__.__name__, PARTS, (name, getattr(part, "lineno", None)))
        for name, part in self.each_part(ast.Constant):
            self.assertNotIsInstance(part.value, (float, complex), name)
            if isinstance(part.value, str):
                self.assertNotIn("%", part.value, name)
        for name, part in self.each_part(ast.For, ast.While):
            self.assertEqual(part.orelse, [], name)

    def test_defs_and_classes(self):
        for name, part in self.each_part(ast.FunctionDef, ast.ClassDef):
            self.assertEqual(part.decorator_list, [], (name, part.name))
        for name, part in self.each_part(ast.arguments):
            self.assertEqual((part.vararg, part.kwarg, part.posonlyargs), (None, None, []), name)
        for name, part in self.each_part(ast.ClassDef):
            self.assertLessEqual(len(part.bases), 1, part.name)
            self.assertIn(part, self.trees[name].body, part.name)

    def test_names(self):
        python_names = set(dir(builtins)) - OWN_NAMES
        for file_name, tree in self.trees.items():
            for name in names_in(tree):
                self.assertTrue(name in METHODS or re.fullmatch(r"[A-Za-z][A-Za-z0-9_]*", name), (file_name, name))
                self.assertNotIn(name, UNUSED_NAMES, file_name)
                self.assertNotIn(name, python_names, file_name)
        for file_name, part in self.each_part(ast.Name):
            if isinstance(part.ctx, ast.Store):
                self.assertNotIn(part.id, OWN_NAMES, file_name)

    def test_nothing_in_a_def_is_called_like_an_import_or_a_class(self):
        for file_name, tree in self.trees.items():
            taken = {name for _, name, _ in drawn_by(tree)}
            taken |= {row.name for row in tree.body if isinstance(row, ast.ClassDef)}
            for part in ast.walk(tree):
                if isinstance(part, ast.arg):
                    self.assertNotIn(part.arg, taken, file_name)
                if isinstance(part, ast.Name) and isinstance(part.ctx, ast.Store):
                    self.assertNotIn(part.id, taken, file_name)

    def test_methods_that_are_called(self):
        own = {row.name for _, part in self.each_part(ast.ClassDef) for row in part.body
               if isinstance(row, ast.FunctionDef)}
        for file_name, part in self.each_part(ast.Call):
            if isinstance(part.func, ast.Attribute):
                self.assertIn(part.func.attr, own | CALLED, file_name)

    def test_no_name_is_a_method_and_a_value(self):
        methods = {row.name for _, part in self.each_part(ast.ClassDef) for row in part.body
                   if isinstance(row, ast.FunctionDef)}
        values = {part.attr for _, part in self.each_part(ast.Attribute) if isinstance(part.ctx, ast.Store)}
        self.assertEqual(methods & values, set())

    def test_each_name_is_bound_once_at_the_top(self):
        for file_name, tree in self.trees.items():
            names = bound_at_top(tree) + [name for _, name, _ in drawn_by(tree)]
            self.assertEqual(len(names), len(set(names)), file_name)

    def test_each_name_is_drawn_from_the_file_that_defines_it(self):
        for file_name, tree in self.trees.items():
            for module, name, other_name in drawn_by(tree):
                self.assertTrue(module.startswith("barfloors."), file_name)
                self.assertIn(name, bound_at_top(self.trees[module.removeprefix("barfloors.")]), file_name)
                self.assertIsNone(other_name, file_name)
        for file_name, part in self.each_part(ast.ImportFrom):
            self.assertIn(part, self.trees[file_name].body)
            self.assertEqual(part.level, 0)

    def test_no_two_files_draw_from_one_another(self):
        waiting = {name: {module.removeprefix("barfloors.") for module, _, _ in drawn_by(tree)}
                   for name, tree in self.trees.items()}
        while waiting:
            free = [name for name, needs in waiting.items() if not needs & set(waiting)]
            self.assertTrue(free, waiting)
            for name in free:
                del waiting[name]


if __name__ == "__main__":
    unittest.main()

"""The package's files keep to the part of Python that they are to keep to, as far as a look at them can tell."""

import ast
import pathlib
import re
import unittest

PACKAGE = pathlib.Path(__file__).resolve().parent.parent / "keptup"
FILES = sorted(path for path in PACKAGE.iterdir() if path.name != "__pycache__")

ALLOWED_NODES = """
Module Expr Import ImportFrom alias FunctionDef arguments arg Return ClassDef Assign AugAssign If While For Break
Continue Pass Raise Try ExceptHandler Call Attribute Subscript Slice Name Constant List Tuple Dict Set ListComp
comprehension JoinedStr FormattedValue Lambda keyword BinOp UnaryOp BoolOp Compare IfExp Load Store
Add Sub Mult FloorDiv Mod Pow BitAnd BitOr BitXor LShift RShift Invert UAdd USub Not And Or
Eq NotEq Lt LtE Gt GtE Is IsNot In NotIn
""".split()

PYTHONS_OWN = """
len range enumerate zip min max sum abs sorted reversed int str bool list tuple dict set frozenset isinstance ord repr
any all divmod Exception ValueError TypeError KeyError IndexError LookupError ZeroDivisionError ArithmeticError
OverflowError RuntimeError NotImplementedError AttributeError StopIteration
""".split()

METHODS = """
append clear copy count endswith extend find get index insert isalnum isalpha isdigit islower isspace isupper items join
keys ljust lower lstrip partition pop remove replace reverse rfind rjust rpartition rsplit rstrip setdefault split
splitlines startswith strip update upper values zfill bit_length
""".split()

NOWHERE = """
type typing typing_extensions enum Enum IntEnum StrEnum Flag IntFlag Generic Protocol ABC ABCMeta namedtuple NamedTuple
TypedDict TYPE_CHECKING abstractmethod
""".split()

NO_NAMES = """
register mro elements open input version_info with_traceback add_note attrgetter breakpoint builtins compile copyright
credits delattr dir eval exec exit gc getattr globals hasattr help id importlib license locals methodcaller os quit
setattr super type vars sys chr format format_map print
""".split()

BUILT_IN = dir(__builtins__) if not isinstance(__builtins__, dict) else list(__builtins__)


def bound_names(tree):
    """Every name that a file binds somewhere: defs, classes, parameters, locals."""
    names = []
    for node in ast.walk(tree):
        if isinstance(node, (ast.FunctionDef, ast.ClassDef)):
            names.append(node.name)
        elif isinstance(node, ast.arg):
            names.append(node.arg)
        elif isinstance(node, ast.Name) and isinstance(node.ctx, ast.Store):
            names.append(node.id)
    return names


def parsed(path):
    return ast.parse(path.read_text(encoding="utf-8"))


def for_each_file(check):
    """A test that makes the check of every file, and tells of each in which it fails."""
    def test(self):
        for path in FILES:
            with self.subTest(file=path.name):
                check(self, path.read_text(encoding="utf-8"), parsed(path))
    return test


class Language(unittest.TestCase):
    def test_files(self):
        names = [path.name for path in FILES]
        self.assertIn("__init__.py", names)
        for name in names:
            self.assertRegex(name, r"^([a-z][a-z0-9_]*|__init__)\.py$")
            self.assertNotIn(name[:-3], BUILT_IN)
            self.assertFalse(name.startswith("test"))

    @for_each_file
    def test_signs_and_size(self, text, tree):
        lines = text.split("\n")
        self.assertLessEqual(len(lines), 399)
        self.assertLessEqual(max(len(line) for line in lines), 120)
        self.assertRegex(text, r"\A[ -~\n]*\Z")
        for node in ast.walk(tree):
            if isinstance(node, ast.FunctionDef):
                self.assertLessEqual(node.end_lineno - node.lineno + 1, 40, node.name)

    @for_each_file
    def test_statements_and_expressions(self, text, tree):
        for node in ast.walk(tree):
            kind = node.__class__.__name__
            self.assertIn(kind, ALLOWED_NODES, getattr(node, "lineno", 0))
            if isinstance(node, ast.Assign):
                self.assertEqual(len(node.targets), 1, node.lineno)
            if isinstance(node, (ast.For, ast.While)):
                self.assertEqual(node.orelse, [], node.lineno)
            if isinstance(node, ast.Constant):
                self.assertIn(node.value.__class__, (int, str, bool, type(None)), node.lineno)
            if isinstance(node, ast.ListComp):
                self.assertEqual(len(node.generators), 1, node.lineno)
                self.assertLessEqual(len(node.generators[0].ifs), 1, node.lineno)

    @for_each_file
    def test_defs_and_classes(self, text, tree):
        for node in ast.walk(tree):
            if isinstance(node, (ast.FunctionDef, ast.ClassDef)):
                self.assertEqual(node.decorator_list, [], node.name)
            if isinstance(node, ast.FunctionDef):
                plain = node.args
                self.assertFalse(plain.vararg or plain.kwarg or plain.kwonlyargs or plain.posonlyargs, node.name)
            if isinstance(node, ast.ClassDef):
                self.assertIn(node, tree.body)
                self.assertLessEqual(len(node.bases), 1)

    @for_each_file
    def test_the_top_of_a_file(self, text, tree):
        self.assertIsNotNone(ast.get_docstring(tree))
        tops = []
        for node in tree.body[1:]:
            self.assertIsInstance(node, (ast.ImportFrom, ast.FunctionDef, ast.ClassDef, ast.Assign))
            if isinstance(node, ast.Assign):
                tops.append(node.targets[0].id)
                ast.literal_eval(node.value)
            elif isinstance(node, ast.ImportFrom):
                tops += [alias.name for alias in node.names]
            else:
                tops.append(node.name)
        self.assertEqual(len(tops), len(set(tops)))

    def test_imports(self):
        draws = {}
        for path in FILES:
            tree = parsed(path)
            draws[path.stem] = []
            for node in ast.walk(tree):
                self.assertNotIsInstance(node, ast.Import)
                if isinstance(node, ast.ImportFrom):
                    self.assertIn(node, tree.body)
                    self.assertEqual(node.level, 0)
                    self.assertRegex(node.module, r"^keptup\.[a-z_]+$")
                    defined = parsed(PACKAGE / (node.module[7:] + ".py"))
                    for alias in node.names:
                        self.assertIn(alias.name, bound_names(defined))
                    draws[path.stem].append(node.module[7:])
        while draws:
            free = [name for name in draws if not any(drawn in draws for drawn in draws[name])]
            self.assertNotEqual(free, [], "files draw from one another")
            draws = {name: draws[name] for name in draws if name not in free}

    @for_each_file
    def test_words_and_names(self, text, tree):
        words = re.findall(r"[A-Za-z_0-9]+", text)
        self.assertEqual([word for word in words if word in NOWHERE], [])
        self.assertNotRegex(text, "dataclass|overload|contextmanager")
        for name in bound_names(tree):
            self.assertTrue(name == "__init__" or re.fullmatch(r"[A-Za-z][A-Za-z0-9_]*", name), name)
            self.assertNotIn(name, BUILT_IN)
        used = [node.id for node in ast.walk(tree) if isinstance(node, ast.Name)]
        used += [node.attr for node in ast.walk(tree) if isinstance(node, ast.Attribute)]
        self.assertEqual([name for name in used if name in NO_NAMES], [])
        drawn = [alias.name for node in tree.body if isinstance(node, ast.ImportFrom) for alias in node.names]
        self.assertEqual([name for name in bound_names(tree) if name in drawn], [])
        own = bound_names(tree) + drawn
        for node in ast.walk(tree):
            if isinstance(node, ast.Name) and node.id in BUILT_IN:
                self.assertIn(node.id, PYTHONS_OWN)
            elif isinstance(node, ast.Name):
                self.assertIn(node.id, own)

    def test_methods_and_values(self):
        methods = []
        values = []
        called = []
        for path in FILES:
            tree = parsed(path)
            for node in ast.walk(tree):
                if isinstance(node, ast.ClassDef):
                    methods += [inner.name for inner in node.body if isinstance(inner, ast.FunctionDef)]
                if isinstance(node, ast.Attribute) and isinstance(node.ctx, ast.Store):
                    values.append(node.attr)
                if isinstance(node, ast.Call) and isinstance(node.func, ast.Attribute):
                    called.append(node.func.attr)
        self.assertEqual(set(methods) & set(values), set())
        self.assertEqual(set(called) - set(methods) - set(METHODS), set())
        taken = set(dir(str)) | set(dir(list)) | set(dir(dict)) | set(dir(int)) | set(dir(set)) | set(dir(bytes))
        self.assertEqual((set(methods) | set(values)) & taken - {"__init__"}, set())

    @for_each_file
    def test_sets_are_not_kept(self, text, tree):
        above = {child: node for node in ast.walk(tree) for child in ast.iter_child_nodes(node)}
        for node in ast.walk(tree):
            if isinstance(node, ast.Call) and isinstance(node.func, ast.Name) and node.func.id == "set":
                around = above[node]
                while isinstance(around, ast.BinOp):
                    around = above[around]
                self.assertTrue(isinstance(around, ast.Compare) or isinstance(around, ast.Call)
                                and around.func.id in ("sorted", "len"), node.lineno)

    def test_the_interface(self):
        tops = [(path.stem, node.name, [arg.arg for arg in node.args.args], node.args.defaults)
                for path in FILES for node in parsed(path).body
                if isinstance(node, ast.FunctionDef) and node.name == "answers"]
        self.assertEqual(tops, [("handed", "answers", ["calls"], [])])


if __name__ == "__main__":
    unittest.main()

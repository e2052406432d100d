"""The form of the code: what of ../shared/LANGUAGE.md can be read off the package's files."""

import ast
import re
import unittest
from pathlib import Path

PACKAGE = Path(__file__).resolve().parent.parent / "cavekeys"
FILES = sorted(path for path in PACKAGE.rglob("*") if "__pycache__" not in path.parts)

BUILTINS = set(
    "len range enumerate zip min max sum abs sorted reversed int str bool list tuple dict set frozenset isinstance ord "
    "repr any all divmod Exception ValueError TypeError KeyError IndexError LookupError ZeroDivisionError "
    "ArithmeticError OverflowError RuntimeError NotImplementedError AttributeError StopIteration".split()
)
METHODS = set(
    "append clear copy count endswith extend find get index insert isalnum isalpha isdigit islower isspace isupper "
    "items join keys ljust lower lstrip partition pop remove replace reverse rfind rjust rpartition rsplit rstrip "
    "setdefault split splitlines startswith strip update upper values zfill bit_length".split()
)
NODES = (
    ast.Module, ast.Expr, ast.Constant, ast.ImportFrom, ast.alias, ast.FunctionDef, ast.arguments, ast.arg,
    ast.ClassDef, ast.Assign, ast.Name, ast.Load, ast.Store, ast.Attribute, ast.Subscript, ast.Slice, ast.Tuple,
    ast.List, ast.Dict, ast.BinOp, ast.UnaryOp, ast.BoolOp, ast.Compare, ast.IfExp, ast.Call, ast.If, ast.While,
    ast.For, ast.Return, ast.Break, ast.Continue, ast.Pass, ast.Raise, ast.ListComp, ast.comprehension, ast.JoinedStr,
    ast.FormattedValue, ast.operator, ast.unaryop, ast.boolop, ast.cmpop,
)
WORDS = (
    "type typing typing_extensions enum Enum IntEnum StrEnum Flag IntFlag Generic Protocol ABC ABCMeta namedtuple "
    "NamedTuple TypedDict TYPE_CHECKING abstractmethod"
).split()
UNUSED = set(
    "register mro elements open input version_info with_traceback add_note format format_map chr print sort "
    "attrgetter breakpoint builtins compile copyright credits delattr dir eval exec exit gc getattr globals hasattr "
    "help id importlib license locals methodcaller os quit setattr super type vars sys".split()
)
PYTHONS_OWN = set(dir(__builtins__) if not isinstance(__builtins__, dict) else __builtins__)
OWN_METHODS = set()
for kind in (str, int, list, dict, set, bytes, tuple):
    OWN_METHODS |= set(dir(kind))


def trees():
    return [(path, ast.parse(path.read_text(encoding="ascii"))) for path in FILES]


def named(tree, kind):
    return [node for node in ast.walk(tree) if isinstance(node, kind)]


class LanguageTest(unittest.TestCase):
    def test_files(self):
        self.assertIn(PACKAGE / "__init__.py", FILES)
        self.assertIn(PACKAGE / "desk.py", FILES)
        for path in FILES:
            self.assertTrue(path.is_file(), path)
            self.assertRegex(path.name, r"^([a-z][a-z0-9_]*|__init__)\.py$")
            self.assertFalse(path.stem != "__init__" and path.stem in PYTHONS_OWN | OWN_METHODS, path)

    def test_signs_and_size(self):
        for path in FILES:
            data = path.read_bytes()
            self.assertTrue(all(32 <= byte <= 126 or byte == 10 for byte in data), path)
            lines = data.decode("ascii").split("\n")
            self.assertLessEqual(len(lines), 400, path)
            self.assertLessEqual(max(len(line) for line in lines), 120, path)

    def test_functions_are_small_and_plain(self):
        for path, tree in trees():
            for node in named(tree, ast.FunctionDef):
                self.assertLessEqual(node.end_lineno - node.lineno + 1, 40, (path, node.name))
                self.assertEqual(node.decorator_list, [], (path, node.name))
                told = node.args
                self.assertFalse(told.vararg or told.kwarg or told.kwonlyargs or told.posonlyargs, (path, node.name))

    def test_words(self):
        for path in FILES:
            text = path.read_text(encoding="ascii")
            for word in WORDS:
                self.assertIsNone(re.search(r"\b" + word + r"\b", text), (path, word))
            for word in ("dataclass", "overload", "contextmanager"):
                self.assertNotIn(word, text, path)

    def test_only_listed_forms(self):
        for path, tree in trees():
            for node in ast.walk(tree):
                self.assertIsInstance(node, NODES, path)
                if isinstance(node, ast.BinOp):
                    self.assertNotIsInstance(node.op, (ast.Div, ast.MatMult, ast.Pow), path)
                if isinstance(node, ast.Constant):
                    self.assertIn(node.value.__class__, (int, str, bool, None.__class__), path)
                if isinstance(node, ast.Assign):
                    self.assertEqual(len(node.targets), 1, path)
                    self.assertNotIsInstance(node.targets[0], (ast.Tuple, ast.List), path)
                if isinstance(node, (ast.For, ast.While)):
                    self.assertEqual(node.orelse, [], path)
                if isinstance(node, ast.ListComp):
                    self.assertEqual(len(node.generators), 1, path)
                    self.assertLessEqual(len(node.generators[0].ifs), 1, path)
                if isinstance(node, ast.FormattedValue):
                    self.assertIsInstance(node.value, ast.Name, path)
                    self.assertIsNone(node.format_spec, path)
                if isinstance(node, ast.Compare) and isinstance(node.ops[0], (ast.Is, ast.IsNot)):
                    self.assertIn(ast.unparse(node.comparators[0]), ("None", "True", "False"), path)
                if isinstance(node, ast.Constant) and isinstance(node.value, str):
                    self.assertNotIn("%", node.value, path)

    def test_imports(self):
        drawn = {}
        for path, tree in trees():
            drawn[path.stem] = []
            for node in named(tree, ast.ImportFrom):
                self.assertEqual((node.level, node.module.split(".")[0]), (0, "cavekeys"), path)
                self.assertIn(node, tree.body, path)
                source = PACKAGE / (node.module.split(".")[1] + ".py")
                own = [part.name for part in ast.parse(source.read_text()).body if hasattr(part, "name")]
                for part in ast.parse(source.read_text()).body:
                    if isinstance(part, ast.Assign):
                        own.append(part.targets[0].id)
                for alias in node.names:
                    self.assertIn(alias.name, own, path)
                    self.assertIsNone(alias.asname, path)
                drawn[path.stem].append(source.stem)
        while drawn:
            ends = [name for name, sources in drawn.items() if not set(sources) & set(drawn)]
            self.assertTrue(ends, "files draw from one another")
            drawn = {name: sources for name, sources in drawn.items() if name not in ends}

    def test_names(self):
        for path, tree in trees():
            top = [part.targets[0].id for part in tree.body if isinstance(part, ast.Assign)]
            top += [part.name for part in tree.body if isinstance(part, (ast.FunctionDef, ast.ClassDef))]
            self.assertEqual(len(top), len(set(top)), path)
            imported = [alias.name for node in named(tree, ast.ImportFrom) for alias in node.names]
            classes = [node.name for node in named(tree, ast.ClassDef)]
            bound = [node.id for node in named(tree, ast.Name) if isinstance(node.ctx, ast.Store)]
            bound += [node.arg for node in named(tree, ast.arg)] + top
            for name in bound:
                self.assertRegex(name, r"^[A-Za-z][A-Za-z0-9_]*$", path)
                self.assertNotIn(name, PYTHONS_OWN | UNUSED | set(imported), path)
                self.assertFalse(name in classes and name not in top, path)
            for node in named(tree, ast.Name):
                if isinstance(node.ctx, ast.Load):
                    self.assertIn(node.id, BUILTINS | set(bound) | set(imported), path)

    def test_methods_and_values(self):
        methods = set()
        values = set()
        for path, tree in trees():
            for node in named(tree, ast.ClassDef):
                self.assertEqual((node.bases, node.decorator_list, node.keywords), ([], [], []), path)
                for part in node.body:
                    self.assertIsInstance(part, ast.FunctionDef, path)
                    methods.add(part.name)
            values |= {node.attr for node in named(tree, ast.Attribute) if isinstance(node.ctx, ast.Store)}
        methods.discard("__init__")
        self.assertFalse(methods & values)
        self.assertFalse((methods | values) & (OWN_METHODS | UNUSED))
        for path, tree in trees():
            for node in named(tree, ast.Attribute):
                self.assertIn(node.attr, methods | values | METHODS, path)

    def test_top_of_files(self):
        for path, tree in trees():
            for part in tree.body:
                if isinstance(part, ast.Assign):
                    # Only a plain value can be read so.
                    value = ast.literal_eval(part.value)
                    inner = list(value.values()) if isinstance(value, dict) else value
                    if isinstance(value, (list, dict)):
                        self.assertFalse(any(isinstance(each, (list, dict)) for each in inner), path)
                else:
                    self.assertIsInstance(part, (ast.Expr, ast.ImportFrom, ast.FunctionDef, ast.ClassDef), path)


if __name__ == "__main__":
    unittest.main()

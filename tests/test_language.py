"""The package keeps to its part of Python: what of LANGUAGE.md can be seen file by file."""

import ast
import builtins
import re
import unittest
from pathlib import Path

PACKAGE = Path(__file__).resolve().parent.parent / "laiddown"

# L6, L7: what a file may be made of.
FORMS = set("""
    Module FunctionDef ClassDef arguments arg Return Assign AugAssign If While For Break Continue Pass Raise Try
    ExceptHandler Expr ImportFrom alias Name Load Store Constant List Tuple Dict Set BinOp UnaryOp BoolOp Compare
    IfExp Call keyword Attribute Subscript Slice ListComp comprehension Lambda JoinedStr FormattedValue
    Add Sub Mult FloorDiv Mod Pow BitAnd BitOr BitXor LShift RShift Invert Not USub UAdd And Or
    Eq NotEq Lt LtE Gt GtE Is IsNot In NotIn
""".split())

# L8, without chr (L27) and print, which only __main__.py may call.
OWN_NAMES = set("""
    len range enumerate zip min max sum abs sorted reversed int str bool list tuple dict set frozenset isinstance ord
    repr any all divmod Exception ValueError TypeError KeyError IndexError LookupError ZeroDivisionError
    ArithmeticError OverflowError RuntimeError NotImplementedError AttributeError StopIteration
""".split())

# L25.
METHODS = set("""
    append clear copy count endswith extend find get index insert isalnum isalpha isdigit islower isspace isupper
    items join keys ljust lower lstrip partition pop remove replace reverse rfind rjust rpartition rsplit rstrip
    setdefault split splitlines startswith strip update upper values zfill bit_length
""".split())

# L17.
WORDS = re.compile(
    r"\b(type|typing|typing_extensions|enum|Enum|IntEnum|StrEnum|Flag|IntFlag|Generic|Protocol|ABC|ABCMeta|namedtuple"
    r"|NamedTuple|TypedDict|TYPE_CHECKING|abstractmethod|register|mro|elements|open|input|version_info|with_traceback"
    r"|add_note)\b|dataclass|overload|contextmanager")

PLAIN_NAME = re.compile(r"^[A-Za-z][A-Za-z0-9_]*$")
UNDERSCORED = ("__init__", "__eq__", "__repr__", "__str__", "__len__")


def files():
    return sorted(path for path in PACKAGE.rglob("*") if path.is_file() and "__pycache__" not in path.parts)


def trees():
    return [(path.name, ast.parse(path.read_text(encoding="ascii"))) for path in files()]


def nodes(kinds):
    return [(name, node) for name, tree in trees() for node in ast.walk(tree) if isinstance(node, kinds)]


def bound_names(tree):
    """Every name that a file binds, wherever in it."""
    found = set()
    for node in ast.walk(tree):
        if isinstance(node, (ast.FunctionDef, ast.ClassDef)):
            found.add(node.name)
        elif isinstance(node, ast.arg):
            found.add(node.arg)
        elif isinstance(node, ast.alias):
            found.add(node.asname or node.name)
        elif isinstance(node, ast.Name) and isinstance(node.ctx, ast.Store):
            found.add(node.id)
    return found


class Language(unittest.TestCase):
    def test_files(self):
        self.assertIn(PACKAGE / "__init__.py", files())
        for path in files():
            self.assertRegex(path.name, r"^([a-z][a-z0-9_]*|__init__)\.py$")
            self.assertRegex(path.read_bytes().decode("ascii"), r"\A[\n -~]*\Z", path.name)

    def test_sizes(self):
        for path in files():
            lines = path.read_text().split("\n")
            self.assertLessEqual(len(lines), 400, path.name)
            self.assertLessEqual(max(len(line) for line in lines), 120, path.name)
        for name, node in nodes(ast.FunctionDef):
            self.assertLessEqual(node.end_lineno - node.lineno + 1, 40, (name, node.name))

    def test_words(self):
        for path in files():
            self.assertIsNone(WORDS.search(path.read_text()), path.name)

    def test_forms(self):
        for name, node in nodes(ast.AST):
            self.assertIn(node.__class__.__name__, FORMS, (name, getattr(node, "lineno", 0)))

    def test_only_calls_stand_by_themselves(self):
        for name, tree in trees():
            for node in ast.walk(tree):
                if isinstance(node, ast.Expr) and node is not tree.body[0]:
                    self.assertIsInstance(node.value, ast.Call, (name, node.lineno))

    def test_one_plain_target(self):
        for name, node in nodes(ast.Assign):
            self.assertEqual(len(node.targets), 1, (name, node.lineno))
            self.assertIsInstance(node.targets[0], (ast.Name, ast.Attribute, ast.Subscript), (name, node.lineno))

    def test_no_power_of_a_name(self):
        for name, node in nodes(ast.BinOp):
            if isinstance(node.op, ast.Pow):
                self.assertIsInstance(node.right, ast.Constant, (name, node.lineno))

    def test_classes(self):
        for name, node in nodes(ast.ClassDef):
            self.assertEqual({part.__class__ for part in node.body}, {ast.FunctionDef}, (name, node.name))

    def test_functions(self):
        for name, node in nodes((ast.FunctionDef, ast.ClassDef)):
            self.assertEqual(node.decorator_list, [], (name, node.name))
        for name, node in nodes(ast.arguments):
            self.assertEqual((node.vararg, node.kwarg, node.kwonlyargs, node.posonlyargs), (None, None, [], []), name)

    def test_imports(self):
        own = {f"laiddown.{path.stem}" for path in files()}
        for name, node in nodes(ast.ImportFrom):
            self.assertIn(node.module, own, (name, node.lineno))
            self.assertEqual(node.level, 0, (name, node.lineno))
            source = dict(trees())[node.module.split(".")[1] + ".py"]
            defined = bound_names(ast.Module([part for part in source.body if not isinstance(part, ast.ImportFrom)], []))
            self.assertTrue({alias.name for alias in node.names} <= defined, (name, node.lineno))

    def test_no_two_files_draw_from_one_another(self):
        drawn = {name: {node.module.split(".")[1] + ".py" for node in tree.body if isinstance(node, ast.ImportFrom)}
                 for name, tree in trees()}
        while drawn:
            free = [name for name in drawn if not drawn[name] & set(drawn)]
            self.assertTrue(free, f"these draw from one another: {sorted(drawn)}")
            drawn = {name: drawn[name] for name in drawn if name not in free}

    def test_names(self):
        for name, tree in trees():
            bound = bound_names(tree)
            for word in bound - set(UNDERSCORED):
                self.assertRegex(word, PLAIN_NAME, name)
                self.assertFalse(hasattr(builtins, word), (name, word))
            for node in ast.walk(tree):
                if isinstance(node, ast.Name):
                    self.assertIn(node.id, bound | OWN_NAMES, (name, node.lineno))

    def test_attributes(self):
        own = {node.name for name, node in nodes(ast.FunctionDef)}
        own |= {node.attr for name, node in nodes(ast.Attribute) if isinstance(node.ctx, ast.Store)}
        taken = set(dir(str) + dir(int) + dir(list) + dir(dict) + dir(set) + dir(bytes)) - set(UNDERSCORED)
        self.assertEqual(own & taken, set())
        for name, node in nodes(ast.Attribute):
            self.assertIn(node.attr, own | METHODS, (name, node.lineno))

    def test_no_local_is_called_like_a_class_or_an_import(self):
        for name, tree in trees():
            tops = {node.name for node in tree.body if isinstance(node, ast.ClassDef)}
            tops |= {alias.name for node in tree.body if isinstance(node, ast.ImportFrom) for alias in node.names}
            for function in [node for node in ast.walk(tree) if isinstance(node, ast.FunctionDef)]:
                self.assertEqual(tops & bound_names(ast.Module(function.body + [function.args], [])), set(),
                                 (name, function.name))

    def test_lists_and_dicts_of_the_top_are_only_read(self):
        for name, tree in trees():
            tops = {node.targets[0].id for node in tree.body
                    if isinstance(node, ast.Assign) and isinstance(node.value, (ast.List, ast.Dict))}
            read = [node.value for node in ast.walk(tree) if isinstance(node, ast.Subscript)
                    and isinstance(node.ctx, ast.Load)]
            read += [node.value for node in ast.walk(tree) if isinstance(node, ast.Attribute) and node.attr == "get"]
            for node in ast.walk(tree):
                if isinstance(node, ast.Name) and node.id in tops and isinstance(node.ctx, ast.Load):
                    self.assertIn(node, read, (name, node.lineno))

    def test_no_method_stands_twice(self):
        for name, node in nodes(ast.ClassDef):
            methods = [part.name for part in node.body]
            self.assertEqual(len(methods), len(set(methods)), (name, node.name))
            values = {part.attr for part in ast.walk(node) if isinstance(part, ast.Attribute)
                      and isinstance(part.ctx, ast.Store)}
            self.assertEqual(values & set(methods), set(), (name, node.name))

    def test_is_stands_beside_none_and_true_and_false(self):
        for name, node in nodes(ast.Compare):
            for op, other in zip(node.ops, node.comparators):
                if isinstance(op, (ast.Is, ast.IsNot)):
                    self.assertTrue(isinstance(other, ast.Constant) and other.value in (None, True, False),
                                    (name, node.lineno))

    def test_no_annotations(self):
        for name, node in nodes((ast.FunctionDef, ast.arg)):
            self.assertIsNone(getattr(node, "returns", None), name)
            self.assertIsNone(getattr(node, "annotation", None), name)

    def test_walked_at_once(self):
        for name, tree in trees():
            walks = []
            for node in ast.walk(tree):
                if isinstance(node, (ast.For, ast.comprehension)):
                    walks.append(node.iter)
                if isinstance(node, ast.Call) and isinstance(node.func, ast.Name) and node.args:
                    if node.func.id in ("list", "tuple", "dict", "sorted", "sum", "any", "all", "enumerate", "zip"):
                        walks.append(node.args[0])
            for node in ast.walk(tree):
                if isinstance(node, ast.Call):
                    called = node.func.id if isinstance(node.func, ast.Name) else node.func.attr
                    if called in ("zip", "enumerate", "reversed", "range", "items", "keys", "values"):
                        self.assertIn(node, walks, (name, node.lineno))

    def test_no_sets_and_no_keywords(self):
        # Narrower than the rules: the package has neither, so what they may stand beside is not looked at.
        for name, node in nodes((ast.Set, ast.keyword)):
            self.fail((name, node.lineno))
        for name, node in nodes(ast.Name):
            self.assertNotIn(node.id, ("set", "frozenset"), (name, node.lineno))

    def test_the_top_of_a_file(self):
        for name, tree in trees():
            self.assertIsNotNone(ast.get_docstring(tree), name)
            tops = [node.name for node in tree.body if isinstance(node, (ast.FunctionDef, ast.ClassDef))]
            for node in tree.body[1:]:
                self.assertIsInstance(node, (ast.ImportFrom, ast.FunctionDef, ast.ClassDef, ast.Assign), name)
                if isinstance(node, ast.Assign):
                    ast.literal_eval(node.value)
                    tops.append(node.targets[0].id)
            self.assertEqual(len(tops), len(set(tops)), name)


if __name__ == "__main__":
    unittest.main()

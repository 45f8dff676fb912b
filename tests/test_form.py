"""The form of the package: what shared/LANGUAGE.md says that can be seen in the files' trees."""

import ast
import builtins
import pathlib
import re
import unittest

PACKAGE = pathlib.Path(__file__).resolve().parent.parent / "starlight"

INTERFACE = {
    "ap_aperture": ["r", "w", "h", "f", "xy"],
    "ap_ring": ["a", "b", "w", "h", "f", "xy"],
    "ap_own": ["r", "a", "b", "w", "h", "f", "xy"],
    "ap_middle": ["level", "r", "m", "w", "h", "f", "xy"],
    "ap_moments": ["level", "r", "w", "h", "f", "xy"],
    "ap_shape": ["l"],
    "ap_radius": ["most", "k", "w", "h", "f", "xy"],
    "ap_magnitude": ["a", "b"],
    "ap_power": ["l"],
    "ap_root": ["l"],
}

STATEMENTS = (ast.FunctionDef, ast.ClassDef, ast.Assign, ast.AugAssign, ast.If, ast.While, ast.For, ast.Return,
              ast.Break, ast.Continue, ast.Pass, ast.Raise, ast.Try, ast.Expr)

# The names of Python's own that L8 allows and L27 doesn't take back.
BUILT_IN = set("""len range enumerate zip min max sum abs sorted reversed int str bool list tuple dict set frozenset
isinstance ord repr any all divmod Exception ValueError TypeError KeyError IndexError LookupError ZeroDivisionError
ArithmeticError OverflowError RuntimeError NotImplementedError AttributeError StopIteration""".split())

METHODS = set("""append clear copy count endswith extend find get index insert isalnum isalpha isdigit islower isspace
isupper items join keys ljust lower lstrip partition pop remove replace reverse rfind rjust rpartition rsplit rstrip
setdefault split splitlines startswith strip update upper values zfill bit_length""".split())

# L17's last list: words that stand nowhere, and pieces that stand nowhere within a word either.
WORDS = set("""type typing typing_extensions enum Enum IntEnum StrEnum Flag IntFlag Generic Protocol ABC ABCMeta
namedtuple NamedTuple TypedDict TYPE_CHECKING abstractmethod""".split())
PIECES = ("dataclass", "overload", "contextmanager")

NOT_EXPRESSIONS = (ast.Set, ast.SetComp, ast.DictComp, ast.GeneratorExp, ast.NamedExpr, ast.Starred, ast.Div,
                   ast.MatMult, ast.Await, ast.Yield, ast.YieldFrom, ast.Is, ast.IsNot)


def source_files():
    return [path for path in sorted(PACKAGE.rglob("*")) if "__pycache__" not in path.parts and path.is_file()]


def trees():
    return [(path, ast.parse(path.read_text(encoding="utf-8"))) for path in source_files()]


def nodes(kind):
    return [(path, node) for path, tree in trees() for node in ast.walk(tree) if isinstance(node, kind)]


class Files(unittest.TestCase):
    def test_names(self):
        self.assertIn(PACKAGE / "__init__.py", source_files())
        for path in source_files():
            self.assertRegex(str(path.relative_to(PACKAGE)), r"^([a-z0-9_]+/)*[a-z0-9_]+\.py$")

    def test_signs_and_sizes(self):
        for path in source_files():
            text = path.read_bytes().decode("utf-8")
            self.assertEqual([sign for sign in text if sign != "\n" and not " " <= sign <= "~"], [], path)
            lines = text.split("\n")
            self.assertLessEqual(len(lines), 399, path)
            self.assertLessEqual(max(len(line) for line in lines), 120, path)

    def test_words(self):
        for path in source_files():
            text = path.read_text(encoding="utf-8")
            self.assertEqual([word for word in re.findall(r"\w+", text) if word in WORDS], [], path)
            self.assertEqual([piece for piece in PIECES if piece in text], [], path)


class Trees(unittest.TestCase):
    def test_nothing_is_imported(self):
        self.assertEqual(nodes((ast.Import, ast.ImportFrom)), [])

    def test_statements(self):
        for path, node in nodes(ast.stmt):
            self.assertIsInstance(node, STATEMENTS, (path, node.lineno))
        for path, node in nodes(ast.Assign):
            self.assertEqual(len(node.targets), 1, (path, node.lineno))
        for path, node in nodes((ast.For, ast.While)):
            self.assertEqual(node.orelse, [], (path, node.lineno))

    def test_expressions(self):
        self.assertEqual(nodes(NOT_EXPRESSIONS), [])
        for path, node in nodes(ast.Constant):
            self.assertIn(type(node.value), (int, str, bool, type(None)), (path, node.lineno))
        for path, node in nodes(ast.ListComp):
            self.assertEqual(len(node.generators), 1, (path, node.lineno))
            self.assertLessEqual(len(node.generators[0].ifs), 1, (path, node.lineno))

    def test_powers_are_written_out(self):
        for path, node in nodes(ast.BinOp):
            if isinstance(node.op, ast.Pow):
                self.assertIsInstance(node.right, ast.Constant, (path, node.lineno))
                self.assertIn(node.right.value, range(65), (path, node.lineno))

    def test_names(self):
        for path, node in nodes(ast.Name):
            self.assertFalse(node.id.startswith("_"), (path, node.lineno))
            if hasattr(builtins, node.id):
                self.assertIn(node.id, BUILT_IN, (path, node.lineno))
                self.assertIsInstance(node.ctx, ast.Load, (path, node.lineno))
        for path, node in nodes(ast.arg):
            self.assertFalse(node.arg.startswith("_") or hasattr(builtins, node.arg), (path, node.lineno))

    def test_methods(self):
        for path, node in nodes(ast.Attribute):
            self.assertIn(node.attr, METHODS, (path, node.lineno))

    def test_functions(self):
        for path, node in nodes(ast.FunctionDef):
            self.assertLessEqual(node.end_lineno - node.lineno + 1, 40, (path, node.name))
            self.assertEqual(node.decorator_list, [], (path, node.name))
            spec = node.args
            self.assertEqual((spec.vararg, spec.kwarg, spec.kwonlyargs, spec.posonlyargs), (None, None, [], []))

    def test_top_of_a_file(self):
        for path, tree in trees():
            bound = []
            for node in tree.body:
                self.assertIsInstance(node, (ast.Expr, ast.Assign, ast.FunctionDef, ast.ClassDef), (path, node.lineno))
                if isinstance(node, ast.Assign):
                    ast.literal_eval(node.value)
                    bound.append(node.targets[0].id)
                elif not isinstance(node, ast.Expr):
                    bound.append(node.name)
            self.assertEqual(len(bound), len(set(bound)), path)


class Interface(unittest.TestCase):
    def test_names_and_arguments(self):
        tree = ast.parse((PACKAGE / "heaps.py").read_text(encoding="utf-8"))
        defs = {node.name: node.args for node in tree.body if isinstance(node, ast.FunctionDef)}
        for name, want in INTERFACE.items():
            self.assertEqual([argument.arg for argument in defs[name].args], want, name)
            self.assertEqual(defs[name].defaults, [], name)


if __name__ == "__main__":
    unittest.main()

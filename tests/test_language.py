"""The package's files keep to the small part of Python that they are written in, as far as a walk can see it."""

import ast
import pathlib
import re
import unittest

PACKAGE = pathlib.Path(__file__).resolve().parent.parent / "blindrelease"

BUILT_IN = """len range enumerate zip min max sum abs sorted reversed int str bool list tuple dict set frozenset isinstance
ord repr any all divmod Exception ValueError TypeError KeyError IndexError LookupError ZeroDivisionError ArithmeticError
OverflowError RuntimeError NotImplementedError AttributeError StopIteration object""".split()
METHODS = """append clear copy count endswith extend find get index insert isalnum isalpha isdigit islower isspace isupper
items join keys ljust lower lstrip partition pop remove replace reverse rfind rjust rpartition rsplit rstrip setdefault
split splitlines startswith strip update upper values zfill bit_length""".split()
NOT_AS_VALUES = """items keys values pop update append clear extend insert remove reverse setdefault sort args encode
format""".split()
VALUES_TOO = "count index title find get join lower upper split strip copy add".split()
NOT_AS_NAMES = """register mro elements open input version_info with_traceback add_note attrgetter breakpoint builtins
compile copyright credits delattr dir eval exec exit gc getattr globals hasattr help id importlib license locals
methodcaller os quit setattr super type vars sys hash next map filter chr iter bytes float print format""".split()
NOWHERE = re.compile(
    r"\b(type|typing|typing_extensions|enum|Enum|IntEnum|StrEnum|Flag|IntFlag|Generic|Protocol|ABC|ABCMeta|namedtuple"
    r"|NamedTuple|TypedDict|TYPE_CHECKING|abstractmethod)\b|dataclass|overload|contextmanager"
)
NODES = """Module ImportFrom alias FunctionDef arguments arg ClassDef Assign AugAssign If While For Return Break Continue
Pass Raise Try ExceptHandler Expr Constant List Tuple Dict Name Load Store BinOp UnaryOp BoolOp Compare IfExp Call
Attribute Subscript Slice ListComp comprehension JoinedStr FormattedValue Lambda keyword Add Sub Mult FloorDiv Mod Pow
BitAnd BitOr BitXor LShift RShift Invert USub UAdd Not And Or Eq NotEq Lt LtE Gt GtE In NotIn Is IsNot Set""".split()
LOCAL_WALKS = "zip enumerate reversed range".split()


def sources():
    return [(path, path.read_text(encoding="utf-8")) for path in sorted(PACKAGE.glob("*.py"))]


def trees():
    return [(path.name, ast.parse(text)) for path, text in sources()]


def nodes(*kinds):
    return [(name, node) for name, tree in trees() for node in ast.walk(tree) if isinstance(node, kinds)]


def own_methods():
    return [child.name for name, node in nodes(ast.ClassDef) for child in node.body if isinstance(child, ast.FunctionDef)]


def own_values():
    return [node.attr for name, node in nodes(ast.Attribute) if isinstance(node.ctx, ast.Store)]


def method_names_of_python():
    return {name for kind in (str, int, list, dict, set, bytes) for name in dir(kind)}


class Language(unittest.TestCase):
    def test_files_and_signs(self):
        names = [path.name for path in PACKAGE.iterdir() if path.name != "__pycache__"]
        self.assertIn("__init__.py", names)
        for name in names:
            self.assertRegex(name, r"\A(__init__|[a-z][a-z0-9_]*)\.py\Z")
        for path, text in sources():
            self.assertRegex(text, r"\A[ -~\n]*\Z", path)
            self.assertNotRegex(text, NOWHERE, path)

    def test_sizes(self):
        for path, text in sources():
            lines = text.split("\n")
            self.assertLessEqual(len(lines), 400, path)
            self.assertLessEqual(max(map(len, lines)), 120, path)
        for name, node in nodes(ast.FunctionDef):
            self.assertLessEqual(node.end_lineno - node.lineno + 1, 40, (name, node.name))

    def test_kinds_of_code(self):
        for name, tree in trees():
            for node in ast.walk(tree):
                self.assertIn(type(node).__name__, NODES, (name, getattr(node, "lineno", 0)))
        for name, node in nodes(ast.Assign):
            self.assertEqual(len(node.targets), 1, (name, node.lineno))
        for name, node in nodes(ast.For, ast.While):
            self.assertEqual(node.orelse, [], (name, node.lineno))
        for name, node in nodes(ast.ListComp):
            self.assertEqual(len(node.generators), 1, (name, node.lineno))
            self.assertLessEqual(len(node.generators[0].ifs), 1, (name, node.lineno))
        for name, node in nodes(ast.FunctionDef, ast.ClassDef):
            self.assertEqual(node.decorator_list, [], (name, node.lineno))
        for name, node in nodes(ast.Constant):
            self.assertIn(type(node.value), (int, str, bool, type(None)), (name, node.lineno))

    def test_expressions_by_themselves_are_calls(self):
        for name, tree in trees():
            for node in ast.walk(tree):
                if isinstance(node, ast.Expr) and node is not tree.body[0]:
                    self.assertIsInstance(node.value, ast.Call, (name, node.lineno))

    def test_imports(self):
        drawn = {}
        for name, node in nodes(ast.ImportFrom):
            self.assertEqual(node.level, 0)
            self.assertRegex(node.module, r"\Ablindrelease\.[a-z]+\Z")
            drawn.setdefault(name, set()).add(node.module.partition(".")[2] + ".py")
        for _ in drawn:
            for name in drawn:
                drawn[name] = drawn[name].union(*[drawn.get(other, set()) for other in drawn[name]])
        for name in drawn:
            self.assertNotIn(name, drawn[name])

    def test_names(self):
        for name, tree in trees():
            top = [node.name for node in tree.body if isinstance(node, (ast.FunctionDef, ast.ClassDef))]
            given = [target.id for node in tree.body if isinstance(node, ast.Assign) for target in node.targets]
            drawn = [alias.name for node in tree.body if isinstance(node, ast.ImportFrom) for alias in node.names]
            self.assertEqual(len(set(top + given + drawn)), len(top + given + drawn), name)
            classes = [node.name for node in tree.body if isinstance(node, ast.ClassDef)]
            stored = [node.id for node in ast.walk(tree) if isinstance(node, ast.Name) and isinstance(node.ctx, ast.Store)]
            stored += [node.arg for node in ast.walk(tree) if isinstance(node, ast.arg)]
            for word in stored:
                self.assertNotIn(word, BUILT_IN + NOT_AS_NAMES + classes + drawn, name)
            for word in stored + top + own_methods() + own_values():
                self.assertTrue(re.match(r"[A-Za-z]\w*\Z", word) or word == "__init__", (name, word))
            read = [node.id for node in ast.walk(tree) if isinstance(node, ast.Name) and isinstance(node.ctx, ast.Load)]
            for word in read:
                self.assertIn(word, BUILT_IN + stored + top + drawn, name)

    def test_methods_and_values(self):
        methods, values = own_methods(), own_values()
        self.assertEqual(set(methods) & set(values), set())
        for word in methods + values:
            self.assertNotIn(word, NOT_AS_NAMES + NOT_AS_VALUES)
        for word in set(methods) - {"__init__"}:
            self.assertTrue(word not in method_names_of_python() or word in METHODS + ["add", "discard"], word)
        for word in values:
            self.assertTrue(word not in method_names_of_python() or word in VALUES_TOO, word)
        for name, node in nodes(ast.Call):
            if isinstance(node.func, ast.Attribute):
                self.assertIn(node.func.attr, METHODS + methods, (name, node.lineno))

    def test_walks_are_not_kept(self):
        for name, node in nodes(ast.Assign, ast.Return):
            value = node.value
            if isinstance(value, ast.Call) and isinstance(value.func, ast.Name):
                self.assertNotIn(value.func.id, LOCAL_WALKS + ["set", "frozenset"], (name, node.lineno))

    def test_is_stands_beside_none_true_and_false_alone(self):
        for name, node in nodes(ast.Compare):
            for operator, right in zip(node.ops, node.comparators):
                if isinstance(operator, (ast.Is, ast.IsNot)):
                    self.assertIn(getattr(right, "value", 0), (None, True, False), (name, node.lineno))


if __name__ == "__main__":
    unittest.main()

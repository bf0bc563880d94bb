"""The form of the package's files: those of the language's rules that can be read off them."""

import ast
import builtins
import re
import unittest
from pathlib import Path

PACKAGE = Path(__file__).resolve().parent.parent / "roomtaps"

OWN_NAMES = set(
    "len range enumerate zip min max sum abs sorted reversed int str bool list tuple dict set frozenset isinstance "
    "ord repr any all divmod Exception ValueError TypeError KeyError IndexError LookupError ZeroDivisionError "
    "ArithmeticError OverflowError RuntimeError NotImplementedError AttributeError StopIteration".split())
METHODS = set(
    "append clear copy count endswith extend find get index insert isalnum isalpha isdigit islower isspace isupper "
    "items join keys ljust lower lstrip partition pop remove replace reverse rfind rjust rpartition rsplit rstrip "
    "setdefault split splitlines startswith strip update upper values zfill bit_length".split())
NODES = set(
    "Module Expr Constant ImportFrom alias FunctionDef arguments arg ClassDef Assign AugAssign If While For Return "
    "Break Continue Pass Raise Try ExceptHandler Call Name Load Store Attribute Subscript Slice List Tuple Dict "
    "BinOp Add Sub Mult FloorDiv Mod Pow BitAnd BitOr BitXor LShift RShift UnaryOp USub Not BoolOp And Or Compare "
    "Eq NotEq Lt LtE Gt GtE Is IsNot In NotIn IfExp ListComp comprehension JoinedStr FormattedValue keyword "
    "Lambda".split())
WORDS = re.compile(
    r"\b(type|typing|typing_extensions|enum|Enum|IntEnum|StrEnum|Flag|IntFlag|Generic|Protocol|ABC|ABCMeta|namedtuple"
    r"|NamedTuple|TypedDict|TYPE_CHECKING|abstractmethod)\b|dataclass|overload|contextmanager")
NOWHERE = set(
    "register mro elements open input version_info with_traceback add_note format format_map attrgetter breakpoint "
    "builtins compile copyright credits delattr dir eval exec exit gc getattr globals hasattr help id importlib "
    "license locals methodcaller os quit setattr super type vars sys chr print".split())


def files():
    return sorted(PACKAGE.glob("*.py"))


class Form(unittest.TestCase):
    def trees(self):
        for path in files():
            text = path.read_text(encoding="utf-8")
            yield path, text, ast.parse(text)

    def test_only_plain_files(self):
        kept = [path.name for path in PACKAGE.iterdir() if path.name != "__pycache__"]
        self.assertEqual(sorted(kept), [path.name for path in files()])
        for name in kept:
            self.assertRegex(name, r"^([a-z][a-z0-9_]*|__init__)\.py$")

    def test_signs_and_sizes(self):
        for path, text, tree in self.trees():
            self.assertLessEqual(len(text.splitlines()), 399)
            self.assertEqual([sign for sign in text if not (" " <= sign <= "~" or sign == "\n")], [])
            self.assertLessEqual(max(len(line) for line in text.splitlines()), 120)
            self.assertIsNone(WORDS.search(text))
            for node in ast.walk(tree):
                if isinstance(node, ast.FunctionDef):
                    self.assertLessEqual(node.end_lineno - node.lineno + 1, 40, node.name)

    def test_imports(self):
        drawn = {}
        for path, text, tree in self.trees():
            rows = [node for node in ast.walk(tree) if isinstance(node, ast.ImportFrom)]
            for row in rows:
                self.assertIn(row, tree.body)
                self.assertEqual(row.level, 0)
                self.assertRegex(row.module, r"^roomtaps\.[a-z]+$")
                source = ast.parse((PACKAGE / (row.module.split(".")[1] + ".py")).read_text())
                bound = self.bound_at_top(source)
                self.assertTrue(all(name.name in bound and name.asname is None for name in row.names))
            drawn[path.stem] = {row.module.split(".")[1] for row in rows}
        while drawn:
            free = [name for name in drawn if not drawn[name]]
            self.assertTrue(free, "files that draw from one another")
            drawn = {name: found - set(free) for name, found in drawn.items() if name not in free}

    def bound_at_top(self, tree):
        names = [node.name for node in tree.body if isinstance(node, (ast.FunctionDef, ast.ClassDef))]
        return names + [node.targets[0].id for node in tree.body if isinstance(node, ast.Assign)]

    def test_the_top_of_each_file(self):
        for path, text, tree in self.trees():
            self.assertIsNotNone(ast.get_docstring(tree))
            for node in tree.body[1:]:
                self.assertIsInstance(node, (ast.ImportFrom, ast.FunctionDef, ast.ClassDef, ast.Assign))
                if isinstance(node, ast.Assign):
                    ast.literal_eval(node.value)
            bound = self.bound_at_top(tree)
            self.assertEqual(len(bound), len(set(bound)))

    def test_statements_and_expressions(self):
        for path, text, tree in self.trees():
            for node in ast.walk(tree):
                where = (path.name, getattr(node, "lineno", 0))
                self.assertIn(type(node).__name__, NODES, where)
                if isinstance(node, ast.Assign):
                    self.assertEqual(len(node.targets), 1, where)
                if isinstance(node, (ast.For, ast.While)):
                    self.assertEqual(node.orelse, [], where)
                if isinstance(node, ast.Constant):
                    self.assertIn(type(node.value), (int, str, bool, type(None)), where)
                if isinstance(node, ast.BinOp) and isinstance(node.op, ast.Pow):
                    self.assertIsInstance(node.right, ast.Constant, where)
                if isinstance(node, ast.ListComp):
                    self.assertEqual(len(node.generators), 1, where)
                    self.assertLessEqual(len(node.generators[0].ifs), 1, where)

    def test_functions(self):
        for path, text, tree in self.trees():
            for node in ast.walk(tree):
                if isinstance(node, ast.FunctionDef):
                    plain = node.args
                    self.assertEqual(node.decorator_list + plain.posonlyargs + plain.kwonlyargs, [])
                    self.assertEqual((plain.vararg, plain.kwarg, node.returns), (None, None, None))
                    self.assertEqual([arg.annotation for arg in plain.args if arg.annotation], [])

    def test_names(self):
        for path, text, tree in self.trees():
            bound = self.bound_at_top(tree)
            taken = [name.name for node in tree.body if isinstance(node, ast.ImportFrom) for name in node.names]
            classes = [node.name for node in tree.body if isinstance(node, ast.ClassDef)]
            for node in ast.walk(tree):
                if isinstance(node, ast.Name):
                    self.check_word(node.id)
                    if isinstance(node.ctx, ast.Store):
                        self.assertNotIn(node.id, dir(builtins))
                        self.assertNotIn(node.id, taken + classes)
                    elif node.id in dir(builtins):
                        self.assertIn(node.id, OWN_NAMES)
                        self.assertNotIn(node.id, bound)
                if isinstance(node, ast.arg):
                    self.check_word(node.arg)
                    self.assertNotIn(node.arg, dir(builtins))
                    self.assertNotIn(node.arg, taken + classes)
                if isinstance(node, ast.FunctionDef) and node.name != "__init__":
                    self.check_word(node.name)

    def check_word(self, word):
        self.assertRegex(word, r"^[A-Za-z][A-Za-z0-9_]*$")
        self.assertNotIn(word, NOWHERE)

    def test_methods(self):
        methods, kept, called = set(), set(), set()
        for path, text, tree in self.trees():
            for node in ast.walk(tree):
                if isinstance(node, ast.ClassDef):
                    methods |= {part.name for part in node.body if isinstance(part, ast.FunctionDef)}
                if isinstance(node, ast.Call) and isinstance(node.func, ast.Attribute):
                    called.add(node.func.attr)
                if isinstance(node, ast.Attribute):
                    self.check_word(node.attr)
                    if isinstance(node.ctx, ast.Store):
                        kept.add(node.attr)
        self.assertEqual(methods & kept, set())
        self.assertEqual(called - methods - METHODS, set())
        for kind in (str, int, list, dict, set, bytes):
            self.assertEqual((kept | methods - {"__init__"}) & set(dir(kind)), set())

    def test_the_interface(self):
        places = []
        for path, text, tree in self.trees():
            for node in tree.body:
                if isinstance(node, (ast.FunctionDef, ast.ClassDef)) and node.name == "answers":
                    places.append((path.name, [arg.arg for arg in node.args.args], node.args.defaults))
        self.assertEqual(places, [("taps.py", ["calls"], [])])


if __name__ == "__main__":
    unittest.main()

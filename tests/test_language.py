"""The package keeps to its small part of Python: what can be seen of the rules L1 to L28 in its files."""

import ast
import builtins
import pathlib
import re
import unittest

PACKAGE = pathlib.Path(__file__).resolve().parent.parent / "latepackets"

STATEMENTS = (
    ast.Assign, ast.AugAssign, ast.If, ast.While, ast.For, ast.Return, ast.Break, ast.Continue, ast.Pass, ast.Raise,
    ast.Try, ast.Expr, ast.FunctionDef, ast.ClassDef, ast.ImportFrom,
)
OTHER_NODES = (
    ast.Module, ast.ExceptHandler, ast.arguments, ast.arg, ast.keyword, ast.alias, ast.Load, ast.Store,
    ast.Constant, ast.Name, ast.Attribute, ast.Subscript, ast.Slice, ast.Call, ast.List, ast.Tuple, ast.Dict,
    ast.BinOp, ast.UnaryOp, ast.BoolOp, ast.Compare, ast.IfExp, ast.Lambda, ast.ListComp, ast.comprehension,
    ast.JoinedStr, ast.FormattedValue, ast.operator, ast.unaryop, ast.boolop, ast.cmpop,
)
OWN_NAMES = """len range enumerate zip min max sum abs sorted reversed int str bool list tuple dict set frozenset
    isinstance ord repr any all divmod Exception ValueError TypeError KeyError IndexError LookupError
    ZeroDivisionError ArithmeticError OverflowError RuntimeError NotImplementedError AttributeError
    StopIteration""".split()
OWN_METHODS = """append clear copy count endswith extend find get index insert isalnum isalpha isdigit islower
    isspace isupper items join keys ljust lower lstrip partition pop remove replace reverse rfind rjust
    rpartition rsplit rstrip setdefault split splitlines startswith strip update upper values zfill
    bit_length""".split()
WORDS_OUT = """type typing typing_extensions enum Enum IntEnum StrEnum Flag IntFlag Generic Protocol ABC ABCMeta
    namedtuple NamedTuple TypedDict TYPE_CHECKING abstractmethod register mro elements open input version_info
    with_traceback add_note attrgetter breakpoint builtins compile copyright credits delattr dir eval exec exit
    gc getattr globals hasattr help id importlib license locals methodcaller os quit setattr super vars sys""".split()
PARTS_OUT = ("dataclass", "overload", "contextmanager")
DOUBLE = ("__init__", "__eq__", "__repr__", "__str__", "__len__")
PLAIN_NAME = re.compile(r"[A-Za-z][A-Za-z0-9_]*\Z")


def files():
    return sorted(PACKAGE.glob("*.py"))


def trees():
    return [(path.name, ast.parse(path.read_text(encoding="utf-8"))) for path in files()]


def nodes(kinds):
    return [(name, node) for name, tree in trees() for node in ast.walk(tree) if isinstance(node, kinds)]


def is_docstring(tree, node):
    return bool(tree.body) and tree.body[0] is node and isinstance(node.value, ast.Constant)


class Language(unittest.TestCase):
    def test_files(self):
        found = [path for path in PACKAGE.iterdir() if path.name != "__pycache__"]
        self.assertEqual(sorted(found), files())
        self.assertIn("__init__.py", [path.name for path in files()])
        for path in files():
            self.assertTrue(path.stem == "__init__" or re.fullmatch(r"[a-z][a-z0-9_]*", path.stem), path)
            self.assertFalse(path.stem in dir(builtins) or path.stem in WORDS_OUT, path)

    def test_rows_and_signs(self):
        for path in files():
            text = path.read_text(encoding="utf-8")
            self.assertTrue(all(sign == "\n" or " " <= sign <= "~" for sign in text), path)
            rows = text.splitlines()
            self.assertLessEqual(len(rows), 400, path)
            self.assertLessEqual(max(len(row) for row in rows), 120, path)

    def test_words(self):
        for path in files():
            text = path.read_text(encoding="utf-8")
            words = re.findall(r"\w+", text)
            self.assertEqual([word for word in words if word in WORDS_OUT], [], path)
            self.assertEqual([part for part in PARTS_OUT if part in text], [], path)

    def test_nodes(self):
        for name, node in nodes(ast.AST):
            self.assertIsInstance(node, STATEMENTS + OTHER_NODES, f"{name}: {ast.dump(node)[:80]}")
            self.assertNotIsInstance(node, (ast.Div, ast.MatMult), name)

    def test_statements(self):
        for name, tree in trees():
            for node in ast.walk(tree):
                if isinstance(node, ast.Expr):
                    self.assertTrue(isinstance(node.value, ast.Call) or is_docstring(tree, node), (name, node.lineno))
                if isinstance(node, ast.Assign):
                    self.assertEqual(len(node.targets), 1, (name, node.lineno))
                    self.assertNotIsInstance(node.targets[0], (ast.Tuple, ast.List), (name, node.lineno))
                if isinstance(node, (ast.For, ast.While)):
                    self.assertEqual(node.orelse, [], (name, node.lineno))
                if isinstance(node, ast.Try):
                    self.assertEqual(node.finalbody, [], (name, node.lineno))

    def test_top_of_files(self):
        allowed = (ast.Expr, ast.ImportFrom, ast.Assign, ast.FunctionDef, ast.ClassDef)
        for name, tree in trees():
            bound = []
            for node in tree.body:
                self.assertIsInstance(node, allowed, (name, node.lineno))
                if isinstance(node, ast.Assign):
                    ast.literal_eval(node.value)
                    bound.append(node.targets[0].id)
                if isinstance(node, (ast.FunctionDef, ast.ClassDef)):
                    bound.append(node.name)
                if isinstance(node, ast.ImportFrom):
                    bound += [alias.name for alias in node.names]
            self.assertEqual(len(bound), len(set(bound)), name)

    def test_imports(self):
        defined = {}
        for name, tree in trees():
            tops = [node.name for node in tree.body if isinstance(node, (ast.FunctionDef, ast.ClassDef))]
            tops += [node.targets[0].id for node in tree.body if isinstance(node, ast.Assign)]
            defined["latepackets." + name[:-3]] = tops
        for name, node in nodes(ast.ImportFrom):
            self.assertEqual(node.level, 0, name)
            self.assertIn(node.module, defined, name)
            for alias in node.names:
                self.assertIsNone(alias.asname, name)
                self.assertIn(alias.name, defined[node.module], name)

    def test_functions(self):
        for name, node in nodes(ast.FunctionDef):
            self.assertLessEqual(node.end_lineno - node.lineno + 1, 40, (name, node.name))
            self.assertEqual(node.decorator_list, [], (name, node.name))
            given = node.args
            self.assertFalse(given.vararg or given.kwarg or given.kwonlyargs or given.posonlyargs, (name, node.name))
            self.assertIsNone(node.returns)
            self.assertTrue(all(arg.annotation is None for arg in given.args))

    def test_classes(self):
        methods, values = [], []
        for name, node in nodes(ast.ClassDef):
            self.assertEqual((node.decorator_list, node.keywords), ([], []), (name, node.name))
            self.assertLessEqual(len(node.bases), 1)
            for part in node.body:
                self.assertIsInstance(part, (ast.FunctionDef, ast.Pass), (name, node.name))
            methods += [part.name for part in node.body if isinstance(part, ast.FunctionDef)]
        for name, node in nodes(ast.Attribute):
            if isinstance(node.ctx, ast.Store):
                values.append(node.attr)
        self.assertEqual(set(methods) & set(values), set())
        taken = {word for kind in (str, int, list, dict, set, bytes, tuple) for word in dir(kind)}
        self.assertEqual((set(methods) | set(values)) & (taken - set(DOUBLE)), set())

    def test_names(self):
        for name, tree in trees():
            tops = [node.name for node in ast.walk(tree) if isinstance(node, (ast.FunctionDef, ast.ClassDef))]
            for node in ast.walk(tree):
                if isinstance(node, ast.Name) and isinstance(node.ctx, ast.Store):
                    tops.append(node.id)
                if isinstance(node, ast.arg):
                    tops.append(node.arg)
            for word in tops:
                self.assertTrue(word in DOUBLE or PLAIN_NAME.match(word), (name, word))
                self.assertNotIn(word, dir(builtins), name)
            for node in ast.walk(tree):
                if isinstance(node, ast.Name) and node.id in dir(builtins):
                    self.assertIn(node.id, OWN_NAMES, name)

    def test_locals_are_not_called_like_classes_and_imports(self):
        for name, tree in trees():
            tops = [node.name for node in tree.body if isinstance(node, ast.ClassDef)]
            for node in tree.body:
                if isinstance(node, ast.ImportFrom):
                    tops += [alias.name for alias in node.names]
            for node in ast.walk(tree):
                if isinstance(node, ast.arg):
                    self.assertNotIn(node.arg, tops, name)
                if isinstance(node, ast.Name) and isinstance(node.ctx, ast.Store):
                    self.assertNotIn(node.id, tops, name)

    def test_methods_called(self):
        own = [node.name for name, node in nodes(ast.FunctionDef)]
        for name, node in nodes(ast.Call):
            if isinstance(node.func, ast.Attribute):
                self.assertIn(node.func.attr, own + OWN_METHODS, (name, node.lineno))

    def test_values(self):
        for name, node in nodes(ast.Constant):
            self.assertIn(type(node.value), (int, str, bool, type(None)), (name, node.lineno))
            if isinstance(node.value, str):
                self.assertNotIn("%", node.value, (name, node.lineno))
        for name, node in nodes(ast.Compare):
            for sign, right in zip(node.ops, node.comparators):
                if isinstance(sign, (ast.Is, ast.IsNot)):
                    self.assertIn(ast.dump(right), [ast.dump(ast.Constant(v)) for v in (None, True, False)], name)


if __name__ == "__main__":
    unittest.main()

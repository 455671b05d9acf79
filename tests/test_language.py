"""The package keeps to the small part of Python that the program is written in, as far as a test can see it."""

import ast
import builtins
import pathlib
import re
import unittest

import courseheld

FOLDER = pathlib.Path(courseheld.__file__).parent
ALLOWED = set("""
    len range enumerate zip min max sum abs sorted reversed int str bool list tuple dict set frozenset isinstance ord
    repr any all divmod Exception ValueError TypeError KeyError IndexError LookupError ZeroDivisionError
    ArithmeticError OverflowError RuntimeError NotImplementedError AttributeError StopIteration
""".split())
METHODS = set("""
    append clear copy count endswith extend find get index insert isalnum isalpha isdigit islower isspace isupper items
    join keys ljust lower lstrip partition pop remove replace reverse rfind rjust rpartition rsplit rstrip setdefault
    split splitlines startswith strip update upper values zfill bit_length
""".split())
TAKEN = {name for kind in (str, int, list, dict, set, bytes, tuple) for name in dir(kind)}
NEVER = set("""
    register mro elements open input version_info with_traceback add_note attrgetter breakpoint builtins compile
    copyright credits delattr dir eval exec exit gc getattr globals hasattr help id importlib license locals
    methodcaller os quit setattr super type vars sys __name__
""".split())
WORDS = re.compile(r"\b(type|typing|typing_extensions|enum|Enum|IntEnum|StrEnum|Flag|IntFlag|Generic|Protocol|ABC"
                   r"|ABCMeta|namedtuple|NamedTuple|TypedDict|TYPE_CHECKING|abstractmethod)\b"
                   r"|dataclass|overload|contextmanager")
NODES = (
    ast.Module, ast.ImportFrom, ast.alias, ast.FunctionDef, ast.arguments, ast.arg, ast.ClassDef, ast.Assign,
    ast.AugAssign, ast.If, ast.While, ast.For, ast.Return, ast.Break, ast.Continue, ast.Pass, ast.Raise, ast.Try,
    ast.ExceptHandler, ast.Expr, ast.Constant, ast.Name, ast.Load, ast.Store, ast.List, ast.Tuple, ast.Dict,
    ast.BinOp, ast.UnaryOp, ast.BoolOp, ast.Compare, ast.Call, ast.Attribute, ast.Subscript, ast.Slice, ast.ListComp,
    ast.comprehension, ast.IfExp, ast.JoinedStr, ast.FormattedValue, ast.keyword, ast.operator, ast.unaryop,
    ast.boolop, ast.cmpop,
)


def docstring_of(node):
    first = node.body[0]
    return first if isinstance(first, ast.Expr) and isinstance(first.value, ast.Constant) else None


def plain(node, defs):
    """A plain value as it may stand at a file's top."""
    if isinstance(node, ast.Constant):
        return node.value is None or isinstance(node.value, (int, str))
    if isinstance(node, ast.Tuple):
        return all(plain(part, defs) for part in node.elts)
    return isinstance(node, ast.Name) and node.id in defs


class LanguageTest(unittest.TestCase):

    def setUp(self):
        self.paths = sorted(path for path in FOLDER.rglob("*") if "__pycache__" not in path.parts)
        self.texts = {path: path.read_text(encoding="utf-8") for path in self.paths}
        self.trees = {path: ast.parse(text) for path, text in self.texts.items()}
        self.own_methods = set()
        self.own_values = set()
        for tree in self.trees.values():
            for node in ast.walk(tree):
                if isinstance(node, ast.ClassDef):
                    self.own_methods.update(part.name for part in node.body if isinstance(part, ast.FunctionDef))
                if isinstance(node, ast.Attribute) and isinstance(node.ctx, ast.Store):
                    self.own_values.add(node.attr)

    def each_node(self):
        """Each node of each file, with where it stands."""
        return [(f"{path.name}, line {getattr(node, 'lineno', 0)}", node)
                for path, tree in self.trees.items() for node in ast.walk(tree)]

    def test_files(self):
        for path in self.paths:
            self.assertRegex(path.name, r"^[a-z][a-z0-9_]*\.py$|^__init__\.py$")
            self.assertNotIn(path.stem, dir(builtins))
        self.assertIn("helm.py", [path.name for path in self.paths])

    def test_size_and_signs(self):
        for path, text in self.texts.items():
            rows = text.split("\n")
            self.assertLessEqual(len(rows), 400, path)
            for number, row in enumerate(rows, 1):
                self.assertTrue(len(row) <= 120 and re.fullmatch("[ -~]*", row), (path.name, number))
                self.assertIsNone(WORDS.search(row), (path.name, number))

    def test_functions(self):
        for where, node in self.each_node():
            if isinstance(node, ast.FunctionDef):
                self.assertLessEqual(node.end_lineno - node.lineno + 1, 40, where)
                self.assertEqual([], node.decorator_list, where)
                args = node.args
                odd = [args.posonlyargs, args.vararg, args.kwonlyargs, args.kwarg]
                self.assertEqual([[], None, [], None], odd, where)

    def test_nodes(self):
        for where, node in self.each_node():
            self.assertIsInstance(node, NODES, where)
            self.assertNotIsInstance(node, (ast.Div, ast.MatMult), where)
            if isinstance(node, ast.Constant):
                self.assertIsInstance(node.value, (int, str, type(None)), where)
            if isinstance(node, ast.Assign):
                self.assertEqual(1, len(node.targets), where)
            if isinstance(node, (ast.For, ast.While)):
                self.assertEqual([], node.orelse, where)
            if isinstance(node, ast.Expr) and not isinstance(node.value, ast.Call):
                self.assertIsInstance(node.value, ast.Constant, where)
            if isinstance(node, ast.ListComp):
                self.assertEqual(1, len(node.generators), where)
            if isinstance(node, ast.Pow):
                self.fail(where)
            if isinstance(node, ast.FormattedValue):
                self.assertIsInstance(node.value, ast.Name, where)
            if isinstance(node, ast.Compare) and any(isinstance(op, (ast.Is, ast.IsNot)) for op in node.ops):
                self.assertIsInstance(node.comparators[0], ast.Constant, where)

    def test_tops(self):
        for path, tree in self.trees.items():
            self.assertIsNotNone(docstring_of(tree))
            bound = []
            defs = set()
            for node in tree.body[1:]:
                with self.subTest(file=path.name, line=node.lineno):
                    if isinstance(node, ast.ImportFrom):
                        self.assertEqual(0, node.level)
                        self.assertTrue(node.module.startswith("courseheld."))
                        bound.extend(alias.name for alias in node.names)
                        self.assertEqual([None] * len(node.names), [alias.asname for alias in node.names])
                        self.from_its_own_file(node)
                    elif isinstance(node, (ast.FunctionDef, ast.ClassDef)):
                        bound.append(node.name)
                        defs.add(node.name)
                    else:
                        self.assertIsInstance(node, ast.Assign)
                        bound.append(node.targets[0].id)
                        value = node.value
                        parts = value.keys + value.values if isinstance(value, ast.Dict) else [value]
                        self.assertTrue(all(plain(part, defs) for part in parts))
            self.assertEqual(sorted(set(bound)), sorted(bound), path.name)

    def from_its_own_file(self, node):
        source = self.trees[FOLDER / (node.module.split(".")[1] + ".py")]
        there = {part.name for part in source.body if isinstance(part, (ast.FunctionDef, ast.ClassDef))}
        there.update(part.targets[0].id for part in source.body if isinstance(part, ast.Assign))
        for alias in node.names:
            self.assertIn(alias.name, there)

    def test_imports_are_used_and_go_one_way(self):
        draws = {}
        for path, tree in self.trees.items():
            used = {node.id for node in ast.walk(tree) if isinstance(node, ast.Name)}
            draws[path.stem] = set()
            for node in tree.body:
                if isinstance(node, ast.ImportFrom):
                    draws[path.stem].add(node.module.split(".")[1])
                    self.assertLessEqual({alias.name for alias in node.names}, used, path.name)
        while draws:
            free = [name for name, others in draws.items() if not others & set(draws)]
            self.assertTrue(free, draws)
            for name in free:
                draws.pop(name)

    def test_names(self):
        for where, node in self.each_node():
            names = [getattr(node, part) for part in ("id", "attr", "arg", "name") if isinstance(
                getattr(node, part, None), str)]
            for name in names:
                self.assertNotIn(name, NEVER, where)
                self.assertTrue(re.fullmatch(r"[A-Za-z][A-Za-z0-9_]*|__init__", name), (where, name))
            if isinstance(node, ast.Name) and isinstance(node.ctx, ast.Load) and node.id in dir(builtins):
                self.assertIn(node.id, ALLOWED, where)
            if isinstance(node, ast.Name) and isinstance(node.ctx, ast.Store) or isinstance(node, ast.arg):
                self.assertNotIn(getattr(node, "id", None) or node.arg, dir(builtins), where)
            if isinstance(node, (ast.FunctionDef, ast.ClassDef)):
                self.assertNotIn(node.name, dir(builtins), where)

    def test_locals_are_not_called_like_imports_or_classes(self):
        for path, tree in self.trees.items():
            tops = {alias.name for node in tree.body if isinstance(node, ast.ImportFrom) for alias in node.names}
            tops.update(node.name for node in tree.body if isinstance(node, ast.ClassDef))
            for node in ast.walk(tree):
                if isinstance(node, ast.Name) and isinstance(node.ctx, ast.Store):
                    self.assertNotIn(node.id, tops, path.name)
                if isinstance(node, ast.arg):
                    self.assertNotIn(node.arg, tops, path.name)

    def test_methods_and_values(self):
        self.assertEqual(set(), self.own_methods & self.own_values)
        self.assertEqual(set(), (self.own_methods | self.own_values) & TAKEN - {"__init__"})
        for where, node in self.each_node():
            if isinstance(node, ast.Call) and isinstance(node.func, ast.Attribute):
                self.assertIn(node.func.attr, METHODS | self.own_methods, where)
            elif isinstance(node, ast.Attribute):
                self.assertIn(node.attr, METHODS | self.own_methods | self.own_values, where)

    def test_walked_at_once(self):
        for path, tree in self.trees.items():
            walked = set()
            for node in ast.walk(tree):
                if isinstance(node, (ast.For, ast.comprehension)):
                    walked.add(id(node.iter))
                if isinstance(node, ast.Call) and isinstance(node.func, ast.Name) and node.args:
                    if node.func.id in ("list", "tuple", "dict", "sorted", "sum", "any", "all", "enumerate", "zip"):
                        walked.add(id(node.args[0]))
            for node in ast.walk(tree):
                if isinstance(node, ast.Call) and isinstance(node.func, ast.Name):
                    if node.func.id in ("zip", "enumerate", "reversed", "range"):
                        self.assertIn(id(node), walked, (path.name, node.lineno))


if __name__ == "__main__":
    unittest.main()

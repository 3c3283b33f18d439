"""The package keeps to the small part of Python it is written in; these are the rules that a test can see."""

import ast
import builtins
import pathlib
import re
import unittest

ROOT = pathlib.Path(__file__).resolve().parent.parent
PACKAGE = ROOT / "vellumpages"
CALLED = set("""len range enumerate zip min max sum abs sorted reversed int str bool list tuple dict set frozenset
    isinstance ord repr any all divmod Exception ValueError TypeError KeyError IndexError LookupError
    ZeroDivisionError ArithmeticError OverflowError RuntimeError NotImplementedError AttributeError
    StopIteration""".split())
METHODS = set("""append clear copy count endswith extend find get index insert isalnum isalpha isdigit islower isspace
    isupper items join keys ljust lower lstrip partition pop remove replace reverse rfind rjust rpartition rsplit
    rstrip setdefault split splitlines startswith strip update upper values zfill bit_length""".split())
NODES = (ast.Module, ast.ImportFrom, ast.alias, ast.FunctionDef, ast.arguments, ast.arg, ast.ClassDef, ast.Assign,
         ast.AugAssign, ast.If, ast.While, ast.For, ast.Return, ast.Break, ast.Continue, ast.Pass, ast.Raise, ast.Try,
         ast.ExceptHandler, ast.Expr, ast.Call, ast.Attribute, ast.Subscript, ast.Slice, ast.Name, ast.Constant,
         ast.List, ast.Tuple, ast.Dict, ast.BinOp, ast.UnaryOp, ast.BoolOp, ast.Compare, ast.IfExp, ast.ListComp,
         ast.comprehension, ast.JoinedStr, ast.FormattedValue, ast.Lambda, ast.keyword, ast.Load, ast.Store,
         ast.operator, ast.unaryop, ast.boolop, ast.cmpop)
WORDS = re.compile(r"\b(type|typing|typing_extensions|enum|Enum|IntEnum|StrEnum|Flag|IntFlag|Generic|Protocol|ABC"
                   r"|ABCMeta|namedtuple|NamedTuple|TypedDict|TYPE_CHECKING|abstractmethod)\b"
                   r"|dataclass|overload|contextmanager")


def is_plain(node):
    if isinstance(node, (ast.Tuple, ast.List)):
        return all(is_plain(part) for part in node.elts)
    return isinstance(node, ast.Constant) and isinstance(node.value, (int, str, type(None)))


class Form(unittest.TestCase):
    def setUp(self):
        self.files = {path: path.read_text(encoding="utf-8") for path in sorted(PACKAGE.glob("*.py"))}
        self.trees = {path: ast.parse(source) for path, source in self.files.items()}
        self.defined = {node.name for tree in self.trees.values() for node in ast.walk(tree)
                        if isinstance(node, (ast.FunctionDef, ast.ClassDef))}

    def nodes(self, *kinds):
        for path, tree in self.trees.items():
            for node in ast.walk(tree):
                if isinstance(node, kinds):
                    yield f"{path.name}:{getattr(node, 'lineno', 0)}", node

    def test_files(self):
        self.assertIn(PACKAGE / "setting.py", self.files)
        lying = [path for path in PACKAGE.iterdir() if path.name != "__pycache__"]
        self.assertEqual(sorted(lying), sorted(self.files))
        for path in self.files:
            self.assertRegex(path.stem, r"\A([a-z][a-z0-9_]*|__init__)\Z")
            self.assertNotIn(path.stem, dir(builtins))

    def test_sizes_and_signs(self):
        for path, source in self.files.items():
            self.assertLessEqual(len(source.split("\n")), 400, path)
            self.assertRegex(source, r"\A[ -~\n]*\Z", path)
            self.assertIsNone(WORDS.search(source), path)
            self.assertTrue(all(len(line) <= 120 for line in source.split("\n")), path)
        for where, node in self.nodes(ast.FunctionDef):
            self.assertLessEqual(node.end_lineno - node.lineno + 1, 40, where)

    def test_nodes(self):
        for where, node in self.nodes(ast.AST):
            self.assertIsInstance(node, NODES, where)
        for where, node in self.nodes(ast.Constant):
            self.assertIsInstance(node.value, (int, str, type(None)), where)
            self.assertNotIn("%", str(node.value), where)
        for where, node in self.nodes(ast.Div, ast.MatMult):
            self.fail(where)
        for where, node in self.nodes(ast.FormattedValue):
            self.assertIsInstance(node.value, ast.Name, where)
            self.assertIsNone(node.format_spec, where)
        for where, node in self.nodes(ast.For, ast.While):
            self.assertEqual(node.orelse, [], where)
        for where, node in self.nodes(ast.Assign):
            self.assertEqual(len(node.targets), 1, where)
            self.assertNotIsInstance(node.targets[0], (ast.Tuple, ast.List), where)
        for where, node in self.nodes(ast.ListComp):
            self.assertEqual(len(node.generators), 1, where)
            self.assertLessEqual(len(node.generators[0].ifs), 1, where)

    def test_tops(self):
        for path, tree in self.trees.items():
            for node in tree.body[1:]:
                self.assertIsInstance(node, (ast.ImportFrom, ast.FunctionDef, ast.ClassDef, ast.Assign), path)
                if isinstance(node, ast.Assign):
                    self.assertTrue(is_plain(node.value), (path, node.lineno))
            self.assertIsInstance(tree.body[0].value, ast.Constant, path)
        for where, node in self.nodes(ast.ClassDef):
            self.assertTrue(all(isinstance(part, (ast.FunctionDef, ast.Pass)) for part in node.body), where)

    def test_imports(self):
        drawn = {}
        for path, tree in self.trees.items():
            drawn[path.stem] = []
            for node in tree.body:
                if isinstance(node, ast.ImportFrom):
                    self.assertEqual((node.level, node.module.split(".")[0]), (0, "vellumpages"), path)
                    stem = node.module.split(".")[1]
                    drawn[path.stem].append(stem)
                    for name in node.names:
                        self.assertIn(name.name, self.bound(PACKAGE / f"{stem}.py"), path)
        while drawn:
            free = [stem for stem, needs in drawn.items() if not set(needs) & set(drawn)]
            self.assertNotEqual(free, [], "files that draw from one another")
            for stem in free:
                drawn.pop(stem)

    def bound(self, path):
        names = []
        for node in self.trees[path].body:
            if isinstance(node, (ast.FunctionDef, ast.ClassDef)):
                names.append(node.name)
            elif isinstance(node, ast.Assign):
                names.append(node.targets[0].id)
        self.assertEqual(len(names), len(set(names)), path)
        return names

    def test_names(self):
        for path, tree in self.trees.items():
            classes = [node.name for node in tree.body if isinstance(node, ast.ClassDef)]
            drawn = [name.name for node in tree.body if isinstance(node, ast.ImportFrom) for name in node.names]
            for node in ast.walk(tree):
                name = node.arg if isinstance(node, ast.arg) else getattr(node, "id", "a")
                self.assertRegex(name, r"\A[A-Za-z][A-Za-z0-9_]*\Z", path)
                if isinstance(node, ast.arg) or isinstance(getattr(node, "ctx", None), ast.Store):
                    self.assertNotIn(name, classes + drawn + dir(builtins), path)
                elif name in dir(builtins):
                    self.assertIn(name, CALLED, path)

    def test_methods(self):
        for where, node in self.nodes(ast.Call):
            if isinstance(node.func, ast.Attribute):
                self.assertIn(node.func.attr, METHODS | self.defined, where)
        for where, node in self.nodes(ast.Attribute):
            self.assertNotIn("__", node.attr, where)
            if isinstance(node.ctx, ast.Store):
                self.assertIsInstance(node.value, ast.Name, where)


if __name__ == "__main__":
    unittest.main()

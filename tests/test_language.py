"""The package's files keep to the part of Python that is asked for, as far as a walk through them can see."""

import ast
import builtins
import pathlib
import re
import unittest

PACKAGE = pathlib.Path(__file__).resolve().parent.parent / "turntasks"
FILES = sorted(path for path in PACKAGE.rglob("*") if path.is_file() and "__pycache__" not in path.parts)

NODES = (
    ast.Module, ast.FunctionDef, ast.ClassDef, ast.ImportFrom, ast.alias, ast.arguments, ast.arg, ast.Assign, ast.If,
    ast.While, ast.For, ast.Return, ast.Break, ast.Continue, ast.Pass, ast.Raise, ast.Expr, ast.Constant, ast.List,
    ast.Tuple, ast.Dict, ast.BinOp, ast.UnaryOp, ast.BoolOp, ast.Compare, ast.IfExp, ast.Call, ast.Attribute,
    ast.Subscript, ast.Slice, ast.ListComp, ast.comprehension, ast.JoinedStr, ast.FormattedValue, ast.Name, ast.Load,
    ast.Store, ast.operator, ast.unaryop, ast.boolop, ast.cmpop,
)
BUILTINS = (
    "len range enumerate zip min max sum abs sorted reversed int str bool list tuple dict isinstance ord repr any all "
    "divmod ValueError KeyError IndexError").split()
METHODS = (
    "append clear copy count endswith extend find get index insert items join keys pop remove replace reverse "
    "setdefault split startswith strip update values bit_length").split()
NOWHERE = re.compile(
    r"\b(type|typing|typing_extensions|enum|Enum|IntEnum|StrEnum|Flag|IntFlag|Generic|Protocol|ABC|ABCMeta|namedtuple|"
    r"NamedTuple|TypedDict|TYPE_CHECKING|abstractmethod)\b|dataclass|overload|contextmanager")


def trees():
    return [(path, ast.parse(path.read_text(encoding="utf-8"))) for path in FILES]


def nodes(kind):
    return [(path, node) for path, tree in trees() for node in ast.walk(tree) if isinstance(node, kind)]


class Language(unittest.TestCase):
    def test_files(self):
        self.assertIn("desk.py", [path.name for path in FILES])
        for path in FILES:
            self.assertRegex(path.name, r"\A(__init__|[a-z][a-z0-9_]*)\.py\Z")
            self.assertNotIn(path.stem, dir(builtins))

    def test_signs_words_and_sizes(self):
        for path in FILES:
            text = path.read_text(encoding="utf-8")
            self.assertRegex(text, r"\A[ -~\n]*\Z", path)
            self.assertIsNone(NOWHERE.search(text), path)
            self.assertLessEqual(len(text.splitlines()), 400, path)
            self.assertLessEqual(max(map(len, text.splitlines())), 120, path)
        for path, node in nodes(ast.FunctionDef):
            self.assertLessEqual(node.end_lineno - node.lineno + 1, 40, (path, node.name))

    def test_only_statements_and_expressions_that_are_listed(self):
        for path, node in nodes(ast.AST):
            self.assertIsInstance(node, NODES, (path, getattr(node, "lineno", 0)))
            self.assertNotIsInstance(node, (ast.Div, ast.MatMult), path)
        for path, node in nodes((ast.While, ast.For)):
            self.assertEqual(node.orelse, [], path)
        for path, node in nodes(ast.Assign):
            self.assertEqual(len(node.targets), 1, (path, node.lineno))
            self.assertNotIsInstance(node.targets[0], ast.Tuple, (path, node.lineno))
        for path, node in nodes(ast.Constant):
            self.assertIsInstance(node.value, (int, str, type(None)), path)
        for path, node in nodes(ast.Expr):
            if not (node.lineno == 1 and isinstance(node.value, ast.Constant)):
                self.assertIsInstance(node.value, ast.Call, (path, node.lineno))

    def test_imports_are_the_packages_own_and_never_in_a_ring(self):
        drawn = {path.stem: [] for path in FILES}
        for path, node in nodes(ast.ImportFrom):
            self.assertEqual(node.level, 0, path)
            package, stem = node.module.split(".")
            self.assertEqual(package, "turntasks", path)
            drawn[path.stem].append(stem)
            top = ast.parse((PACKAGE / (stem + ".py")).read_text(encoding="utf-8")).body
            defined = [name for part in top for name in names_bound(part)]
            for alias in node.names:
                self.assertIn(alias.name, defined, path)
                self.assertIsNone(alias.asname, path)
        self.assertEqual(drawn["__init__"], [])
        while drawn:
            free = [stem for stem, others in drawn.items() if not set(others) & set(drawn)]
            self.assertNotEqual(free, [], "files draw from one another")
            drawn = {stem: others for stem, others in drawn.items() if stem not in free}

    def test_names(self):
        for path, node in nodes(ast.Name):
            if node.id in dir(builtins):
                self.assertIn(node.id, BUILTINS, (path, node.lineno))
                self.assertIsInstance(node.ctx, ast.Load, (path, node.lineno))
            self.assertRegex(node.id, r"\A[A-Za-z]\w*\Z", path)
        for path, node in nodes(ast.arg):
            self.assertNotIn(node.arg, dir(builtins), path)
            self.assertRegex(node.arg, r"\A[A-Za-z]\w*\Z", path)
        for path, node in nodes(ast.FunctionDef):
            self.assertNotIn(node.name, dir(builtins), path)
            self.assertEqual(node.decorator_list, [], path)

    def test_no_local_is_called_like_an_import_or_a_class_of_its_file(self):
        for path, tree in trees():
            taken = [name for part in tree.body if not isinstance(part, (ast.Assign, ast.FunctionDef))
                     for name in names_bound(part)]
            for function in [node for node in ast.walk(tree) if isinstance(node, ast.FunctionDef)]:
                for node in ast.walk(function):
                    if isinstance(node, ast.arg):
                        self.assertNotIn(node.arg, taken, path)
                    if isinstance(node, ast.Name) and isinstance(node.ctx, ast.Store):
                        self.assertNotIn(node.id, taken, path)

    def test_methods_and_values(self):
        own = {node.name for path, node in nodes(ast.FunctionDef)}
        stored = {node.attr for path, node in nodes(ast.Attribute) if isinstance(node.ctx, ast.Store)}
        of_classes = {part.name for path, node in nodes(ast.ClassDef) for part in node.body
                      if isinstance(part, ast.FunctionDef)}
        self.assertEqual(stored & of_classes, set())
        pythons = {name for kind in (str, int, list, dict, set, bytes, tuple) for name in dir(kind)}
        self.assertEqual((stored | of_classes - {"__init__"}) & pythons, set())
        for path, node in nodes(ast.Call):
            if isinstance(node.func, ast.Attribute):
                self.assertIn(node.func.attr, list(own) + METHODS, (path, node.lineno))


def names_bound(part):
    if isinstance(part, (ast.FunctionDef, ast.ClassDef)):
        return [part.name]
    if isinstance(part, ast.Assign):
        return [target.id for target in part.targets]
    if isinstance(part, ast.ImportFrom):
        return [alias.name for alias in part.names]
    return []


if __name__ == "__main__":
    unittest.main()

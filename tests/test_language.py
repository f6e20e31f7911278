"""The package's files keep to the part of Python that is asked for, as far as a walk through them can see."""

import ast
import builtins
import pathlib
import re
import unittest

PACKAGE = pathlib.Path(__file__).resolve().parent.parent / "turntasks"
FILES = sorted(path for path in PACKAGE.rglob("*") if path.is_file() and "__pycache__" not in path.parts)

NODES = (
    ast.Module, ast.FunctionDef, ast.ClassDef, ast.ImportFrom, ast.alias, ast.arguments, ast.arg, ast.Assign, ast.If,
    ast.While, ast.For, ast.Return, ast.Break, ast.Continue, ast.Pass, ast.Raise, ast.Expr, ast.Constant, ast.List,
    ast.Tuple, ast.Dict, ast.BinOp, ast.UnaryOp, ast.BoolOp, ast.Compare, ast.IfExp, ast.Call, ast.Attribute,
    ast.Subscript, ast.Slice, ast.ListComp, ast.comprehension, ast.JoinedStr, ast.FormattedValue, ast.Name, ast.Load,
    ast.Store, ast.operator, ast.unaryop, ast.boolop, ast.cmpop,
)
BUILTINS = (
    "len range enumerate zip min max sum abs sorted reversed int str bool list tuple dict isinstance ord repr any all "
    "divmod ValueError KeyError IndexError").split()
METHODS = (
    "append clear copy count endswith extend find get index insert items join keys pop remove replace reverse "
    "setdefault split startswith strip update values bit_length").split()
NOWHERE = re.compile(
    r"\b(type|typing|typing_extensions|enum|Enum|IntEnum|StrEnum|Flag|IntFlag|Generic|Protocol|ABC|ABCMeta|namedtuple|"
    r"NamedTuple|TypedDict|TYPE_CHECKING|abstractmethod)\b|dataclass|overload|contextmanager")

NOT_NAMES = (
    "register mro elements open input version_info with_traceback add_note attrgetter breakpoint builtins compile "
    "copyright credits delattr dir eval exec exit gc getattr globals hasattr help id importlib license locals "
    "methodcaller os quit setattr super type vars sys chr format format_map").split()
WALKED_AT_ONCE = "zip enumerate reversed range items keys values".split()
WALKERS = "list tuple dict sorted sum any all enumerate zip min max".split()


def trees():
    return [(path, ast.parse(path.read_text(encoding="utf-8"))) for path in FILES]


def nodes(kind):
    return [(path, node) for path, tree in trees() for node in ast.walk(tree) if isinstance(node, kind)]


class Language(unittest.TestCase):
    def test_files(self):
        self.assertIn("desk.py", [path.name for path in FILES])
        for path in FILES:
            self.assertRegex(path.name, r"\A(__init__|[a-z][a-z0-9_]*)\.py\Z")
            self.assertNotIn(path.stem, dir(builtins))

    def test_signs_words_and_sizes(self):
        for path in FILES:
            text = path.read_text(encoding="utf-8")
            self.assertRegex(text, r"\A[ -~\n]*\Z", path)
            self.assertIsNone(NOWHERE.search(text), path)
            self.assertLessEqual(len(text.splitlines()), 400, path)
            self.assertLessEqual(max(map(len, text.splitlines())), 120, path)
        for path, node in nodes(ast.FunctionDef):
            self.assertLessEqual(node.end_lineno - node.lineno + 1, 40, (path, node.name))

    def test_only_statements_and_expressions_that_are_listed(self):
        for path, node in nodes(ast.AST):
            self.assertIsInstance(node, NODES, (path, getattr(node, "lineno", 0)))
            self.assertNotIsInstance(node, (ast.Div, ast.MatMult), path)
        for path, node in nodes((ast.While, ast.For)):
            self.assertEqual(node.orelse, [], path)
        for path, node in nodes(ast.Assign):
            self.assertEqual(len(node.targets), 1, (path, node.lineno))
            self.assertNotIsInstance(node.targets[0], ast.Tuple, (path, node.lineno))
        for path, node in nodes(ast.Constant):
            self.assertIsInstance(node.value, (int, str, type(None)), path)
        for path, node in nodes(ast.Expr):
            if not (node.lineno == 1 and isinstance(node.value, ast.Constant)):
                self.assertIsInstance(node.value, ast.Call, (path, node.lineno))

    def test_imports_are_the_packages_own_and_never_in_a_ring(self):
        drawn = {path.stem: [] for path in FILES}
        for path, node in nodes(ast.ImportFrom):
            self.assertEqual(node.level, 0, path)
            package, stem = node.module.split(".")
            self.assertEqual(package, "turntasks", path)
            drawn[path.stem].append(stem)
            top = ast.parse((PACKAGE / (stem + ".py")).read_text(encoding="utf-8")).body
            defined = [name for part in top for name in names_bound(part)]
            for alias in node.names:
                self.assertIn(alias.name, defined, path)
                self.assertIsNone(alias.asname, path)
        self.assertEqual(drawn["__init__"], [])
        while drawn:
            free = [stem for stem, others in drawn.items() if not set(others) & set(drawn)]
            self.assertNotEqual(free, [], "files draw from one another")
            drawn = {stem: others for stem, others in drawn.items() if stem not in free}

    def test_names(self):
        for path, node in nodes(ast.Name):
            if node.id in dir(builtins):
                self.assertIn(node.id, BUILTINS, (path, node.lineno))
                self.assertIsInstance(node.ctx, ast.Load, (path, node.lineno))
            self.assertRegex(node.id, r"\A[A-Za-z]\w*\Z", path)
        for path, node in nodes(ast.arg):
            self.assertNotIn(node.arg, dir(builtins), path)
            self.assertRegex(node.arg, r"\A[A-Za-z]\w*\Z", path)
        for path, node in nodes(ast.FunctionDef):
            self.assertNotIn(node.name, dir(builtins), path)
            self.assertEqual(node.decorator_list, [], path)

    def test_no_local_is_called_like_an_import_or_a_class_of_its_file(self):
        for path, tree in trees():
            taken = [name for part in tree.body if not isinstance(part, (ast.Assign, ast.FunctionDef))
                     for name in names_bound(part)]
            for function in [node for node in ast.walk(tree) if isinstance(node, ast.FunctionDef)]:
                for node in ast.walk(function):
                    if isinstance(node, ast.arg):
                        self.assertNotIn(node.arg, taken, path)
                    if isinstance(node, ast.Name) and isinstance(node.ctx, ast.Store):
                        self.assertNotIn(node.id, taken, path)

    def test_methods_and_values(self):
        own = {node.name for path, node in nodes(ast.FunctionDef)}
        stored = {node.attr for path, node in nodes(ast.Attribute) if isinstance(node.ctx, ast.Store)}
        of_classes = {part.name for path, node in nodes(ast.ClassDef) for part in node.body
                      if isinstance(part, ast.FunctionDef)}
        self.assertEqual(stored & of_classes, set())
        pythons = {name for kind in (str, int, list, dict, set, bytes, tuple) for name in dir(kind)}
        self.assertEqual((stored | of_classes - {"__init__"}) & pythons, set())
        for path, node in nodes(ast.Call):
            if isinstance(node.func, ast.Attribute):
                self.assertIn(node.func.attr, list(own) + METHODS, (path, node.lineno))

    def test_the_top_of_a_file_has_defs_and_plain_values(self):
        for path, tree in trees():
            self.assertIsNotNone(ast.get_docstring(tree), path)
            bound = [name for part in tree.body for name in names_bound(part)]
            self.assertEqual(len(bound), len(set(bound)), path)
            for part in tree.body[1:]:
                self.assertIsInstance(part, (ast.ImportFrom, ast.FunctionDef, ast.ClassDef, ast.Assign), path)
                if isinstance(part, ast.Assign):
                    self.assertIsInstance(ast.literal_eval(part.value), (int, str, tuple, type(None)), path)

    def test_classes_hold_methods_alone(self):
        for path, tree in trees():
            inner = [node for part in tree.body for node in ast.walk(part)
                     if isinstance(node, ast.ClassDef) and node is not part]
            self.assertEqual(inner, [], path)
        for path, node in nodes(ast.ClassDef):
            self.assertLessEqual(len(node.bases), 1, path)
            named = [part.name for part in node.body if isinstance(part, ast.FunctionDef)]
            self.assertEqual(len(named), len(set(named)), path)
            for part in node.body:
                self.assertIsInstance(part, (ast.FunctionDef, ast.Pass), path)
        for path, node in nodes(ast.FunctionDef):
            self.assertTrue(node.name == "__init__" or not node.name.startswith("_"), path)
            if node.name == "__init__":
                self.assertEqual([part for part in ast.walk(node) if isinstance(part, ast.Return)], [], path)

    def test_parameters_are_plain(self):
        for path, node in nodes(ast.arguments):
            self.assertEqual((node.vararg, node.kwarg, node.kwonlyargs, node.posonlyargs), (None, None, [], []), path)
            for default in node.defaults:
                self.assertIsInstance(default, ast.Constant, path)
        for path, node in nodes(ast.arg):
            self.assertIsNone(node.annotation, path)
        for path, node in nodes(ast.FunctionDef):
            self.assertIsNone(node.returns, path)

    def test_names_that_are_not_used(self):
        for path, node in nodes(ast.Name):
            self.assertNotIn(node.id, NOT_NAMES, (path, node.lineno))
        for path, node in nodes(ast.Attribute):
            self.assertNotIn(node.attr, NOT_NAMES, (path, node.lineno))
            self.assertRegex(node.attr, r"\A[A-Za-z]\w*\Z", (path, node.lineno))

    def test_is_stands_beside_none_true_and_false_alone(self):
        for path, node in nodes(ast.Compare):
            if any(isinstance(sign, (ast.Is, ast.IsNot)) for sign in node.ops):
                self.assertIn(ast.unparse(node.comparators[0]), ("None", "True", "False"), (path, node.lineno))

    def test_numbers_and_texts(self):
        for path, node in nodes(ast.BinOp):
            self.assertNotIsInstance(node.op, ast.Pow, (path, node.lineno))
        for path, node in nodes(ast.Constant):
            if isinstance(node.value, str):
                self.assertNotIn("%", node.value, (path, node.lineno))
        for path, node in nodes(ast.FormattedValue):
            self.assertIsInstance(node.value, ast.Name, (path, node.lineno))
            self.assertIsNone(node.format_spec, (path, node.lineno))

    def test_comprehensions_have_one_walk(self):
        for path, node in nodes(ast.ListComp):
            self.assertEqual(len(node.generators), 1, (path, node.lineno))
            self.assertLessEqual(len(node.generators[0].ifs), 1, (path, node.lineno))

    def test_what_is_walked_at_once_is_not_kept(self):
        for path, tree in trees():
            walked = [node.iter for node in ast.walk(tree) if isinstance(node, (ast.For, ast.comprehension))]
            walked += [node.args[0] for node in ast.walk(tree)
                       if isinstance(node, ast.Call) and called(node) in WALKERS and node.args]
            for node in ast.walk(tree):
                if isinstance(node, ast.Call) and called(node) in WALKED_AT_ONCE:
                    self.assertIn(node, walked, (path, node.lineno))

    def test_methods_and_pythons_own_are_called_where_they_stand(self):
        for path, tree in trees():
            heads = [node.func for node in ast.walk(tree) if isinstance(node, ast.Call)]
            bases = [base for node in ast.walk(tree) if isinstance(node, ast.ClassDef) for base in node.bases]
            methods = {part.name for node in ast.walk(tree) if isinstance(node, ast.ClassDef) for part in node.body
                       if isinstance(part, ast.FunctionDef)}
            for node in ast.walk(tree):
                if isinstance(node, ast.Attribute) and (node.attr in METHODS or node.attr in methods):
                    self.assertIn(node, heads, (path, node.lineno))
                if isinstance(node, ast.Name) and node.id in BUILTINS:
                    self.assertIn(node, heads + bases, (path, node.lineno))


def called(node):
    return node.func.id if isinstance(node.func, ast.Name) else getattr(node.func, "attr", None)


def names_bound(part):
    if isinstance(part, (ast.FunctionDef, ast.ClassDef)):
        return [part.name]
    if isinstance(part, ast.Assign):
        return [target.id for target in part.targets]
    if isinstance(part, ast.ImportFrom):
        return [alias.name for alias in part.names]
    return []


if __name__ == "__main__":
    unittest.main()

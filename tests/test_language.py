"""The package's files keep to the part of Python told in LANGUAGE.md, as far as a file's tree shows it."""

import ast
import builtins
import pathlib
import re
import unittest

PACKAGE = pathlib.Path(__file__).resolve().parent.parent / "leastlays"

KNOWN = set(
    "len range enumerate zip min max sum abs sorted reversed int str bool list tuple dict set frozenset isinstance"
    " ord repr any all divmod Exception ValueError TypeError KeyError IndexError LookupError ZeroDivisionError"
    " ArithmeticError OverflowError RuntimeError NotImplementedError AttributeError StopIteration".split())

STRAY_NODES = (
    ast.With, ast.Match, ast.Delete, ast.Global, ast.Nonlocal, ast.Assert, ast.Yield, ast.YieldFrom, ast.Await,
    ast.AsyncFunctionDef, ast.AsyncFor, ast.AsyncWith, ast.SetComp, ast.DictComp, ast.GeneratorExp, ast.NamedExpr,
    ast.Starred, ast.Div, ast.MatMult, ast.Import, ast.AnnAssign)

METHODS = set(
    "append clear copy count endswith extend find get index insert isalnum isalpha isdigit islower isspace isupper"
    " items join keys ljust lower lstrip partition pop remove replace reverse rfind rjust rpartition rsplit rstrip"
    " setdefault split splitlines startswith strip update upper values zfill bit_length".split())

DUNDERS = {"__init__", "__eq__", "__repr__", "__str__", "__len__"}

STRAY_WORDS = re.compile(
    r"\b(type|typing|typing_extensions|enum|Enum|IntEnum|StrEnum|Flag|IntFlag|Generic|Protocol|ABC|ABCMeta"
    r"|namedtuple|NamedTuple|TypedDict|TYPE_CHECKING|abstractmethod)\b|dataclass|overload|contextmanager")

STRAY_NAMES = set("register mro elements open input version_info with_traceback add_note".split())


def files():
    return sorted([path for path in PACKAGE.rglob("*") if "__pycache__" not in path.parts])


def trees():
    return [(path, ast.parse(path.read_text(encoding="utf-8"))) for path in files()]


def bound_names(tree):
    """The names that a tree's functions and assignments give."""
    for node in ast.walk(tree):
        if isinstance(node, ast.arg):
            yield node.arg
        elif isinstance(node, ast.Name) and isinstance(node.ctx, ast.Store):
            yield node.id
        elif isinstance(node, (ast.FunctionDef, ast.ClassDef)):
            yield node.name


class Language(unittest.TestCase):
    def test_files(self):
        self.assertIn(PACKAGE / "__init__.py", files())
        for path in files():
            self.assertRegex(path.name, r"^([a-z][a-z0-9_]*|__init__)\.py$")
            self.assertNotIn(path.stem, dir(builtins))
            self.assertFalse(path.stem.startswith("test"), path)

    def test_signs_and_size(self):
        for path in files():
            text = path.read_text(encoding="utf-8")
            self.assertRegex(text, r"\A[ -~\n]*\Z", path)
            self.assertIsNone(STRAY_WORDS.search(text), path)
            self.assertLessEqual(len(text.splitlines()), 400, path)
            self.assertLessEqual(max([len(line) for line in text.splitlines()]), 120, path)

    def test_functions(self):
        for path, tree in trees():
            for node in ast.walk(tree):
                if not isinstance(node, ast.FunctionDef):
                    continue
                self.assertLessEqual(node.end_lineno - node.lineno + 1, 40, node.name)
                self.assertEqual(node.decorator_list, [], node.name)
                takes = node.args
                self.assertEqual((takes.vararg, takes.kwarg, takes.kwonlyargs), (None, None, []), node.name)

    def test_classes(self):
        for path, tree in trees():
            for node in ast.walk(tree):
                if isinstance(node, ast.ClassDef):
                    self.assertLessEqual(len(node.bases), 1, node.name)
                    self.assertEqual((node.decorator_list, node.keywords), ([], []), node.name)
                    for part in node.body[1:]:
                        self.assertIsInstance(part, ast.FunctionDef, node.name)

    def test_statements_and_expressions(self):
        for path, tree in trees():
            for node in ast.walk(tree):
                where = (path.name, getattr(node, "lineno", 0))
                self.assertNotIsInstance(node, STRAY_NODES, where)
                if isinstance(node, (ast.For, ast.While)):
                    self.assertEqual(node.orelse, [], where)
                if isinstance(node, ast.Try):
                    self.assertEqual(node.finalbody, [], where)
                if isinstance(node, ast.ListComp):
                    self.assertEqual(len(node.generators), 1, where)
                    self.assertLessEqual(len(node.generators[0].ifs), 1, where)
                if isinstance(node, ast.Constant):
                    self.assertNotIsInstance(node.value, (float, complex, bytes), where)
                    self.assertNotIn("%", node.value if isinstance(node.value, str) else "", where)

    def test_imports(self):
        for path, tree in trees():
            for node in ast.walk(tree):
                if isinstance(node, ast.ImportFrom):
                    self.assertEqual(node.level, 0, path)
                    self.assertIn(node, tree.body, path)
                    self.assertTrue(node.module.startswith("leastlays."), path)
                    drawn = ast.parse((PACKAGE / (node.module.split(".")[1] + ".py")).read_text(encoding="utf-8"))
                    defined = [part.name for part in drawn.body if hasattr(part, "name")]
                    defined += [part.targets[0].id for part in drawn.body if isinstance(part, ast.Assign)]
                    for alias in node.names:
                        self.assertIn(alias.name, defined, path)

    def test_no_two_files_draw_from_one_another(self):
        drawn = {}
        for path, tree in trees():
            drawn[path.stem] = {node.module.split(".")[1] for node in tree.body if isinstance(node, ast.ImportFrom)}
        while drawn:
            last = [name for name, others in drawn.items() if not others & set(drawn)]
            self.assertTrue(last, drawn)
            drawn = {name: others for name, others in drawn.items() if name not in last}

    def test_the_top_of_a_module(self):
        kinds = (ast.ImportFrom, ast.FunctionDef, ast.ClassDef, ast.Assign)
        for path, tree in trees():
            self.assertIsNotNone(ast.get_docstring(tree), path)
            named = [part.name for part in tree.body if hasattr(part, "name")]
            for part in tree.body[1:]:
                self.assertIsInstance(part, kinds, path)
                if isinstance(part, ast.Assign):
                    # Written out, so that nothing is worked out at a file's top.
                    ast.literal_eval(part.value)
                    named.append(part.targets[0].id)
            self.assertEqual(len(named), len(set(named)), path)

    def test_no_annotations_and_plain_f_strings(self):
        for path, tree in trees():
            for node in ast.walk(tree):
                where = (path.name, getattr(node, "lineno", 0))
                if isinstance(node, ast.FunctionDef):
                    self.assertIsNone(node.returns, where)
                if isinstance(node, ast.arg):
                    self.assertIsNone(node.annotation, where)
                if isinstance(node, ast.FormattedValue):
                    self.assertIsInstance(node.value, ast.Name, where)
                    self.assertIsNone(node.format_spec, where)
                if isinstance(node, ast.BinOp) and isinstance(node.op, ast.Pow):
                    self.assertIsInstance(node.right, ast.Constant, where)

    def test_errors_taken_and_raised(self):
        errors = ast.parse((PACKAGE / "errors.py").read_text(encoding="utf-8"))
        own = {node.name for node in errors.body if isinstance(node, ast.ClassDef)}
        for path, tree in trees():
            for node in ast.walk(tree):
                if isinstance(node, ast.ExceptHandler):
                    self.assertIn(node.type.id, own, path)
                if isinstance(node, ast.Raise):
                    self.assertIn(node.exc.func.id, own, path)

    def test_assignments_and_is(self):
        for path, tree in trees():
            for node in ast.walk(tree):
                where = (path.name, getattr(node, "lineno", 0))
                if isinstance(node, ast.Assign):
                    self.assertEqual(len(node.targets), 1, where)
                    self.assertNotIsInstance(node.targets[0], (ast.Tuple, ast.List), where)
                if isinstance(node, ast.Compare) and any(isinstance(op, (ast.Is, ast.IsNot)) for op in node.ops):
                    self.assertIn(ast.unparse(node.comparators[-1]), ("None", "True", "False"), where)

    def test_calls_of_python_names(self):
        keywords = {"sorted": {"key", "reverse"}, "min": {"key", "default"}, "max": {"key", "default"},
                    "sum": {"start"}, "enumerate": {"start"}, "zip": {"strict"}}
        for path, tree in trees():
            for node in ast.walk(tree):
                if isinstance(node, ast.Call) and isinstance(node.func, ast.Name) and node.func.id in KNOWN:
                    given = {keyword.arg for keyword in node.keywords}
                    self.assertLessEqual(given, keywords.get(node.func.id, set()), (path.name, node.lineno))
            # A set is made straight within these alone.
            text = ast.unparse(tree)
            self.assertEqual(len(re.findall(r"\bset\(", text)), len(re.findall(r"\b(sorted|len)\(set\(", text)), path)

    def test_no_name_is_a_method_and_a_value(self):
        methods = set()
        kept = set()
        for path, tree in trees():
            for node in ast.walk(tree):
                if isinstance(node, ast.ClassDef):
                    own = [part.name for part in node.body if isinstance(part, ast.FunctionDef)]
                    self.assertEqual(len(own), len(set(own)), node.name)
                    methods.update(own)
                if isinstance(node, ast.Attribute) and isinstance(node.ctx, ast.Store):
                    kept.add(node.attr)
        self.assertEqual(methods & kept, set())
        values = [name for kind in (str, int, list, tuple, dict, set, bytes) for name in dir(kind)]
        self.assertEqual((methods | kept) & set(values) - DUNDERS, set())

    def test_names(self):
        for path, tree in trees():
            taken = {alias.asname or alias.name for node in tree.body if isinstance(node, ast.ImportFrom)
                     for alias in node.names}
            classes = {node.name for node in tree.body if isinstance(node, ast.ClassDef)}
            self.assertEqual(sorted(classes), sorted([name for name in bound_names(tree) if name in classes]), path)
            for name in bound_names(tree):
                self.assertTrue(name in DUNDERS or not name.startswith("_"), (path, name))
                self.assertNotIn(name, taken, path)
                self.assertNotIn(name, STRAY_NAMES, path)
                self.assertTrue(name in DUNDERS or name not in vars(builtins), (path, name))
            for node in ast.walk(tree):
                if isinstance(node, ast.Name) and node.id in vars(builtins):
                    self.assertIn(node.id, KNOWN, path)
                if isinstance(node, ast.Attribute):
                    self.assertNotIn(node.attr, STRAY_NAMES | {"format", "format_map", "sort"}, path)

    def test_methods_of_python_values(self):
        own = {name for path, tree in trees() for name in bound_names(tree)}
        for path, tree in trees():
            for node in ast.walk(tree):
                if isinstance(node, ast.Call) and isinstance(node.func, ast.Attribute):
                    self.assertIn(node.func.attr, METHODS | DUNDERS | own, path)


if __name__ == "__main__":
    unittest.main()

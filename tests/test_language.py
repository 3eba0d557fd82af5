"""Holds the package's files to those rules of ../shared/LANGUAGE.md that a short check can see."""

import ast
import builtins
import re
import unittest
from pathlib import Path

PACKAGE = Path(__file__).resolve().parent.parent / "firsthit"

STATEMENTS = (
    ast.Assign, ast.AugAssign, ast.AnnAssign, ast.If, ast.While, ast.For, ast.Return, ast.Break, ast.Continue,
    ast.Pass, ast.Raise, ast.Try, ast.Expr, ast.FunctionDef, ast.ClassDef, ast.ImportFrom,
)
EXPRESSIONS = (
    ast.Constant, ast.Name, ast.List, ast.Tuple, ast.Dict, ast.Set, ast.BinOp, ast.UnaryOp, ast.BoolOp, ast.Compare,
    ast.IfExp, ast.Call, ast.Attribute, ast.Subscript, ast.Slice, ast.ListComp, ast.JoinedStr, ast.FormattedValue,
    ast.Lambda,
)
BUILT_IN = set(
    "len range enumerate zip min max sum abs sorted reversed int str bool list tuple dict set frozenset isinstance "
    "ord repr any all divmod Exception ValueError TypeError KeyError IndexError LookupError ZeroDivisionError "
    "ArithmeticError OverflowError RuntimeError NotImplementedError AttributeError StopIteration object".split()
)
OWN_UNDERSCORED = {"__init__", "__eq__", "__repr__", "__str__", "__len__"}
METHODS = set(
    "append clear copy count endswith extend find get index insert isalnum isalpha isdigit islower isspace isupper "
    "items join keys ljust lower lstrip partition pop remove replace reverse rfind rjust rpartition rsplit rstrip "
    "setdefault split splitlines startswith strip update upper values zfill bit_length".split()
)
WORDS = re.compile(
    r"\b(type|typing|typing_extensions|enum|Enum|IntEnum|StrEnum|Flag|IntFlag|Generic|Protocol|ABC|ABCMeta"
    r"|namedtuple|NamedTuple|TypedDict|TYPE_CHECKING|abstractmethod)\b|dataclass|overload|contextmanager"
)


NOT_NAMES = set(
    "register mro elements open input version_info with_traceback add_note attrgetter breakpoint builtins compile "
    "copyright credits delattr dir eval exec exit gc getattr globals hasattr help id importlib license locals "
    "methodcaller os quit setattr super sys vars chr print __name__".split()
)
WALKED = {"zip", "enumerate", "reversed", "range", "items", "keys", "values"}
WALKERS = {"list", "tuple", "dict", "sorted", "sum", "any", "all", "enumerate", "zip", "min", "max"}
READ_BY = {"get", "index", "count", "items", "keys", "values", "copy"}
TAKEN = {"KeyError", "ZeroDivisionError", "StopIteration"}


def sources():
    for path in sorted(PACKAGE.rglob("*")):
        if path.is_file() and "__pycache__" not in path.parts:
            yield path, path.read_text(encoding="utf-8")


def bound_names(tree):
    for node in ast.walk(tree):
        if isinstance(node, ast.Name) and isinstance(node.ctx, ast.Store):
            yield node.id
        elif isinstance(node, ast.arg):
            yield node.arg
        elif isinstance(node, (ast.FunctionDef, ast.ClassDef)):
            yield node.name


def own_methods():
    for path, text in sources():
        for node in ast.walk(ast.parse(text)):
            if isinstance(node, ast.ClassDef):
                yield from [part.name for part in node.body if isinstance(part, ast.FunctionDef)]


def is_plain(node, functions):
    if isinstance(node, ast.Name):
        return node.id in functions
    if isinstance(node, (ast.List, ast.Tuple)):
        return all(is_plain(part, functions) for part in node.elts)
    if isinstance(node, ast.Dict):
        return all(is_plain(part, functions) for part in node.keys + node.values)
    return isinstance(node, ast.Constant)


def called_name(node):
    if not isinstance(node, ast.Call):
        return None
    return node.func.attr if isinstance(node.func, ast.Attribute) else getattr(node.func, "id", None)


def is_read(node, above):
    """Whether a list or dict of a file's top, at this place, is only read."""
    if isinstance(above, ast.Subscript):
        return above.value is node and isinstance(above.ctx, ast.Load)
    if isinstance(above, ast.Attribute):
        return above.attr in READ_BY
    if isinstance(above, ast.Compare):
        return isinstance(above.ops[0], (ast.In, ast.NotIn, ast.Eq, ast.NotEq))
    return isinstance(above, (ast.For, ast.comprehension)) or called_name(above) in WALKERS | {"len"}


def with_above(tree):
    for above in ast.walk(tree):
        for node in ast.iter_child_nodes(above):
            yield node, above


def drawn_from(name):
    tree = ast.parse((PACKAGE / f"{name}.py").read_text(encoding="utf-8"))
    return [node.module.split(".")[1] for node in ast.walk(tree) if isinstance(node, ast.ImportFrom)]


class Language(unittest.TestCase):
    def test_files(self):
        names = [path.name for path, text in sources()]
        self.assertIn("__init__.py", names)
        for path, text in sources():
            self.assertEqual(path.parent, PACKAGE)
            self.assertRegex(path.name, r"\A(__init__|[a-z][a-z0-9_]*)\.py\Z")

    def test_signs_and_size(self):
        for path, text in sources():
            tree = ast.parse(text)
            with self.subTest(file=path.name):
                self.assertRegex(text, r"\A[ -~\n]*\Z")
                self.assertLessEqual(text.count("\n"), 400)
                self.assertLessEqual(max(map(len, text.split("\n"))), 120)
                for node in ast.walk(tree):
                    if isinstance(node, ast.FunctionDef):
                        self.assertLessEqual(node.end_lineno - node.lineno + 1, 40, node.name)

    def test_words(self):
        for path, text in sources():
            with self.subTest(file=path.name):
                self.assertIsNone(WORDS.search(text))

    def test_statements_and_expressions(self):
        for path, text in sources():
            tree = ast.parse(text)
            with self.subTest(file=path.name):
                for node in ast.walk(tree):
                    if isinstance(node, ast.stmt):
                        self.assertIsInstance(node, STATEMENTS, node.__class__)
                    if isinstance(node, ast.expr):
                        self.assertIsInstance(node, EXPRESSIONS, node.__class__)
                    if isinstance(node, ast.Constant):
                        self.assertIsInstance(node.value, (int, str, type(None)))
                    if isinstance(node, ast.Assign):
                        self.assertEqual(len(node.targets), 1)
                    if isinstance(node, (ast.For, ast.While)):
                        self.assertEqual(node.orelse, [])
                    if isinstance(node, ast.Try):
                        self.assertEqual(node.finalbody, [])
                    if isinstance(node, (ast.FunctionDef, ast.ClassDef)):
                        self.assertEqual(node.decorator_list, [])
                    self.assertNotIsInstance(node, (ast.Div, ast.MatMult, ast.Starred))

    def test_imports_are_the_package_s_own(self):
        for path, text in sources():
            tree = ast.parse(text)
            with self.subTest(file=path.name):
                for node in ast.walk(tree):
                    if isinstance(node, ast.ImportFrom):
                        self.assertEqual(node.level, 0)
                        self.assertTrue(node.module.startswith("firsthit."), node.module)
                        self.assertNotIn("*", [name.name for name in node.names])
                        self.assertIn(node, tree.body)

    def test_no_two_files_draw_from_one_another(self):
        for path, text in sources():
            reached = []
            waiting = drawn_from(path.stem)
            while waiting:
                name = waiting.pop()
                if name not in reached:
                    reached.append(name)
                    waiting.extend(drawn_from(name))
            self.assertNotIn(path.stem, reached)

    def test_imports_come_from_the_file_that_defines_them(self):
        for path, text in sources():
            for node in ast.walk(ast.parse(text)):
                if isinstance(node, ast.ImportFrom):
                    other = ast.parse((PACKAGE / f"{node.module.split('.')[1]}.py").read_text(encoding="utf-8"))
                    defined = [part.name for part in other.body if isinstance(part, (ast.FunctionDef, ast.ClassDef))]
                    for name in node.names:
                        self.assertIn(name.name, defined)
                        self.assertIsNone(name.asname)

    def test_methods_and_values_of_objects(self):
        own = set(own_methods())
        called = set()
        values = set()
        for path, text in sources():
            for node in ast.walk(ast.parse(text)):
                if isinstance(node, ast.Call) and isinstance(node.func, ast.Attribute):
                    called.add(node.func.attr)
                if isinstance(node, ast.Attribute) and isinstance(node.ctx, ast.Store):
                    values.add(node.attr)
        self.assertLessEqual(called, METHODS | own)
        self.assertFalse(values & (own | METHODS))
        self.assertFalse(values & {name for kind in (str, int, list, dict, set, bytes) for name in dir(kind)})

    def test_is_stands_beside_none_true_and_false(self):
        for path, text in sources():
            for node in ast.walk(ast.parse(text)):
                if isinstance(node, ast.Compare) and isinstance(node.ops[0], (ast.Is, ast.IsNot)):
                    self.assertIsInstance(node.comparators[0], ast.Constant)
                    self.assertIn(node.comparators[0].value, (None, True, False))

    def test_the_top_of_a_file(self):
        for path, text in sources():
            functions = []
            with self.subTest(file=path.name):
                for place, node in enumerate(ast.parse(text).body):
                    if isinstance(node, ast.FunctionDef):
                        functions.append(node.name)
                    elif isinstance(node, ast.Assign):
                        self.assertIsInstance(node.targets[0], ast.Name)
                        self.assertTrue(is_plain(node.value, functions), ast.unparse(node))
                        inner = [part for part in ast.walk(node.value) if part is not node.value]
                        self.assertFalse([part for part in inner if isinstance(part, (ast.List, ast.Dict))])
                    elif isinstance(node, ast.Expr):
                        self.assertEqual((place, isinstance(node.value, ast.Constant)), (0, True))
                    else:
                        self.assertIsInstance(node, (ast.ImportFrom, ast.ClassDef))

    def test_lists_and_dicts_of_the_top_are_only_read(self):
        for path, text in sources():
            tree = ast.parse(text)
            kept = [node.targets[0].id for node in tree.body
                    if isinstance(node, ast.Assign) and isinstance(node.value, (ast.List, ast.Dict))]
            for node, above in with_above(tree):
                if isinstance(node, ast.Name) and node.id in kept and isinstance(node.ctx, ast.Load):
                    self.assertTrue(is_read(node, above), (path.name, node.lineno))

    def test_names_of_the_top_are_bound_once(self):
        for path, text in sources():
            tree = ast.parse(text)
            top = [node.name for node in tree.body if isinstance(node, (ast.FunctionDef, ast.ClassDef))]
            top += [node.targets[0].id for node in tree.body if isinstance(node, ast.Assign)]
            drawn = [name.name for node in tree.body if isinstance(node, ast.ImportFrom) for name in node.names]
            self.assertEqual(len(top + drawn), len(set(top + drawn)), path.name)
            classes = [node.name for node in tree.body if isinstance(node, ast.ClassDef)]
            inner = [node for node in ast.walk(tree) if isinstance(node, (ast.Name, ast.arg))]
            for node in inner:
                name = node.arg if isinstance(node, ast.arg) else node.id
                if isinstance(node, ast.arg) or isinstance(node.ctx, ast.Store):
                    self.assertNotIn(name, drawn + classes, (path.name, node.lineno))

    def test_classes(self):
        own = [node.name for path, text in sources() for node in ast.parse(text).body if isinstance(node, ast.ClassDef)]
        for path, text in sources():
            tree = ast.parse(text)
            for node in ast.walk(tree):
                if isinstance(node, ast.ClassDef):
                    self.assertIn(node, tree.body)
                    self.assertLessEqual(len(node.bases), 1)
                    self.assertFalse(node.keywords)
                    for base in node.bases:
                        self.assertIn(base.id, own + ["ValueError", "Exception"])
                    methods = [part.name for part in node.body if isinstance(part, ast.FunctionDef)]
                    self.assertEqual(len(methods), len(set(methods)))
                    for part in node.body:
                        self.assertIsInstance(part, (ast.FunctionDef, ast.Pass, ast.Expr))
            for node, above in with_above(tree):
                if isinstance(node, ast.Name) and node.id in own:
                    stands = isinstance(above, (ast.ClassDef, ast.ExceptHandler, ast.Raise))
                    self.assertTrue(stands or called_name(above) in (node.id, "isinstance"), (path.name, node.lineno))

    def test_functions(self):
        for path, text in sources():
            for node in ast.walk(ast.parse(text)):
                if isinstance(node, (ast.FunctionDef, ast.Lambda)):
                    self.assertEqual((node.args.vararg, node.args.kwarg, node.args.kwonlyargs), (None, None, []))
                    self.assertEqual(node.args.posonlyargs, [])
                if isinstance(node, ast.FunctionDef):
                    self.assertIsNone(node.returns)
                if isinstance(node, ast.arg):
                    self.assertIsNone(node.annotation)
                self.assertNotIsInstance(node, ast.AnnAssign)
                if isinstance(node, ast.ListComp):
                    self.assertEqual(len(node.generators), 1)
                    self.assertLessEqual(len(node.generators[0].ifs), 1)

    def test_names_that_are_not_used(self):
        for path, text in sources():
            for node in ast.walk(ast.parse(text)):
                if isinstance(node, (ast.Name, ast.Attribute, ast.arg, ast.FunctionDef, ast.ClassDef)):
                    names = [getattr(node, key, "") for key in ("id", "attr", "arg", "name")]
                    self.assertFalse(NOT_NAMES & set(names), (path.name, node.lineno))

    def test_errors_are_taken_by_their_own_names(self):
        own = [node.name for node in ast.parse((PACKAGE / "errors.py").read_text(encoding="utf-8")).body
               if isinstance(node, ast.ClassDef)]
        for path, text in sources():
            for node in ast.walk(ast.parse(text)):
                if isinstance(node, ast.ExceptHandler):
                    self.assertIn(node.type.id, TAKEN | set(own), (path.name, node.lineno))
                if isinstance(node, ast.Raise):
                    self.assertIn(called_name(node.exc), own, (path.name, node.lineno))

    def test_walked_on_the_spot(self):
        for path, text in sources():
            for node, above in with_above(ast.parse(text)):
                if called_name(node) in WALKED:
                    walked = isinstance(above, (ast.For, ast.comprehension)) and above.iter is node
                    self.assertTrue(walked or called_name(above) in WALKERS, (path.name, node.lineno))
                self.assertNotIn(called_name(node), ("set", "frozenset"))
                self.assertNotIsInstance(node, ast.Set)

    def test_numbers_and_texts(self):
        for path, text in sources():
            for node in ast.walk(ast.parse(text)):
                if isinstance(node, ast.Constant) and isinstance(node.value, str):
                    self.assertNotIn("%", node.value)
                if isinstance(node, ast.BinOp) and isinstance(node.op, ast.Pow):
                    self.assertIsInstance(node.right, ast.Constant)
                if isinstance(node, ast.FormattedValue):
                    self.assertIsInstance(node.value, ast.Name)
                    self.assertIsNone(node.format_spec)
            self.assertNotRegex(text, r"\\[^nt\\'\"]")

    def test_names(self):
        for path, text in sources():
            tree = ast.parse(text)
            with self.subTest(file=path.name):
                for name in bound_names(tree):
                    self.assertTrue(name in OWN_UNDERSCORED or not name.startswith("_"), name)
                    self.assertFalse(name in dir(builtins), name)
                for node in ast.walk(tree):
                    if isinstance(node, ast.Name) and node.id in dir(builtins):
                        self.assertIn(node.id, BUILT_IN)


if __name__ == "__main__":
    unittest.main()

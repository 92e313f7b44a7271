"""The package keeps to LANGUAGE.md, as far as a walk over its syntax can see."""

import ast
import pathlib
import re
import unittest

PACKAGE = pathlib.Path(__file__).resolve().parent.parent / "hallrules"

STATEMENTS = (ast.Assign, ast.AugAssign, ast.If, ast.While, ast.For, ast.Return, ast.Break, ast.Continue, ast.Pass,
              ast.Raise, ast.Try, ast.Expr, ast.FunctionDef, ast.ClassDef, ast.ImportFrom)
EXPRESSIONS = (ast.Constant, ast.List, ast.Tuple, ast.Dict, ast.BinOp, ast.UnaryOp, ast.BoolOp, ast.Compare, ast.IfExp,
               ast.Call, ast.Attribute, ast.Subscript, ast.Slice, ast.ListComp, ast.JoinedStr, ast.FormattedValue,
               ast.Name, ast.Lambda)
OWN_NAMES = set("""len range enumerate zip min max sum abs sorted reversed int str bool list tuple dict set frozenset
    isinstance ord repr any all divmod Exception ValueError TypeError KeyError IndexError LookupError
    ZeroDivisionError ArithmeticError OverflowError RuntimeError NotImplementedError AttributeError
    StopIteration""".split())
OWN_METHODS = set("""append clear copy count endswith extend find get index insert isalnum isalpha isdigit islower
    isspace isupper items join keys ljust lower lstrip partition pop remove replace reverse rfind rjust rpartition
    rsplit rstrip setdefault split splitlines startswith strip update upper values zfill bit_length""".split())
WORDS = r"""type typing typing_extensions enum Enum IntEnum StrEnum Flag IntFlag Generic Protocol ABC ABCMeta namedtuple
    NamedTuple TypedDict TYPE_CHECKING abstractmethod""".split()
PARTS = ("dataclass", "overload", "contextmanager")
UNUSED = set("""register mro elements open input version_info with_traceback add_note attrgetter breakpoint builtins
    compile copyright credits delattr dir eval exec exit gc getattr globals hasattr help id importlib license locals
    methodcaller os quit setattr super type vars sys __name__ chr""".split())
CHANGES = ("append", "clear", "extend", "insert", "pop", "remove", "reverse", "setdefault", "update")


def bound_names(node):
    """Every name that a file gives to something, its methods and values too."""
    for part in ast.walk(node):
        if isinstance(part, (ast.FunctionDef, ast.ClassDef)):
            yield part.name
        elif isinstance(part, ast.arg):
            yield part.arg
        elif isinstance(part, ast.Name) and isinstance(part.ctx, ast.Store):
            yield part.id
        elif isinstance(part, ast.Attribute) and isinstance(part.ctx, ast.Store):
            yield part.attr
        elif isinstance(part, ast.ExceptHandler) and part.name:
            yield part.name


def top_names(node):
    for part in node.body:
        if isinstance(part, (ast.FunctionDef, ast.ClassDef)):
            yield part.name
        elif isinstance(part, ast.Assign):
            yield part.targets[0].id


class Language(unittest.TestCase):
    def setUp(self):
        self.sources = {path.name: path.read_bytes() for path in sorted(PACKAGE.glob("*.py"))}
        self.trees = {name: ast.parse(source) for name, source in self.sources.items()}

    def parts(self, *kinds):
        for name, tree in self.trees.items():
            for part in ast.walk(tree):
                if isinstance(part, kinds):
                    yield f"{name}:{getattr(part, 'lineno', 0)}", part

    def test_files(self):
        for path in PACKAGE.iterdir():
            if path.name != "__pycache__":
                self.assertRegex(path.name, r"\A([a-z][a-z0-9_]*|__init__)\.py\Z")
        self.assertIn("desk.py", self.sources)

    def test_signs_and_sizes(self):
        for name, source in self.sources.items():
            self.assertTrue(set(source) <= {10, *range(32, 127)}, name)
            lines = source.decode().split("\n")
            self.assertLessEqual(len(lines), 401, name)
            self.assertLessEqual(max(len(line) for line in lines), 120, name)
        for where, part in self.parts(ast.FunctionDef):
            self.assertLessEqual(part.end_lineno - part.lineno + 1, 40, where)

    def test_words(self):
        for name, source in self.sources.items():
            words = re.findall(r"\w+", source.decode())
            self.assertFalse(set(words) & set(WORDS), name)
            self.assertFalse([word for word in words for part in PARTS if part in word], name)

    def test_statements_and_expressions(self):
        for where, part in self.parts(ast.stmt):
            self.assertIsInstance(part, STATEMENTS, where)
        for where, part in self.parts(ast.expr):
            self.assertIsInstance(part, EXPRESSIONS, where)
        for where, part in self.parts(ast.Div, ast.MatMult, ast.Pow):
            self.fail(f"an operator that isn't used: {where}")
        for where, part in self.parts(ast.Assign):
            self.assertEqual(len(part.targets), 1, where)
            self.assertIsInstance(part.targets[0], (ast.Name, ast.Attribute, ast.Subscript), where)
        for where, part in self.parts(ast.While, ast.For):
            self.assertFalse(part.orelse, where)
        for where, part in self.parts(ast.Try):
            self.assertFalse(part.finalbody, where)
        for where, part in self.parts(ast.ListComp):
            self.assertEqual(len(part.generators), 1, where)
            self.assertLessEqual(len(part.generators[0].ifs), 1, where)

    def test_values(self):
        for where, part in self.parts(ast.Constant):
            self.assertIsInstance(part.value, (int, str, type(None)), where)
            if isinstance(part.value, str):
                self.assertNotIn("%", part.value, where)
        for where, part in self.parts(ast.FormattedValue):
            self.assertIsInstance(part.value, ast.Name, where)
            self.assertIsNone(part.format_spec, where)
        for where, part in self.parts(ast.Compare):
            for operator, side in zip(part.ops, part.comparators):
                if isinstance(operator, (ast.Is, ast.IsNot)):
                    self.assertIn(getattr(side, "value", 0), (None, True, False), where)

    def test_definitions(self):
        for where, part in self.parts(ast.FunctionDef):
            self.assertFalse(part.decorator_list or part.returns, where)
            parts = part.args
            self.assertFalse(parts.vararg or parts.kwarg or parts.kwonlyargs or parts.posonlyargs, where)
            self.assertFalse([arg for arg in parts.args if arg.annotation], where)
        for where, part in self.parts(ast.ClassDef):
            self.assertFalse(part.decorator_list or part.keywords, where)
            self.assertLessEqual(len(part.bases), 1, where)
            for inner in part.body:
                self.assertTrue(isinstance(inner, ast.FunctionDef) or isinstance(inner.value, ast.Constant), where)

    def test_tops(self):
        for name, tree in self.trees.items():
            for part in tree.body:
                self.assertIsInstance(part, (ast.Expr, ast.ImportFrom, ast.FunctionDef, ast.ClassDef, ast.Assign), name)
                if isinstance(part, ast.Expr):
                    self.assertIs(part, tree.body[0], name)
                if isinstance(part, ast.Assign):
                    for inner in ast.walk(part.value):
                        self.assertIsInstance(inner, (ast.Constant, ast.Tuple, ast.Name, ast.expr_context), name)
            tops = list(top_names(tree))
            self.assertEqual(len(tops), len(set(tops)), name)

    def test_imports(self):
        drawn = {}
        for name, tree in self.trees.items():
            drawn[name] = []
            for part in ast.walk(tree):
                if isinstance(part, ast.ImportFrom):
                    self.assertIn(part, tree.body, name)
                    self.assertEqual(part.level, 0, name)
                    package, file = part.module.split(".")
                    self.assertEqual(package, "hallrules", name)
                    drawn[name].append(file + ".py")
                    for alias in part.names:
                        self.assertIn(alias.name, list(top_names(self.trees[file + ".py"])), name)
                        self.assertIsNone(alias.asname, name)
        left = dict(drawn)
        while left:
            free = [name for name in left if not set(left[name]) & set(left)]
            self.assertTrue(free, f"files draw from one another: {sorted(left)}")
            left = {name: files for name, files in left.items() if name not in free}

    def test_names(self):
        for name, tree in self.trees.items():
            bound = set(bound_names(tree))
            for word in bound - {"__init__"}:
                self.assertRegex(word, r"\A[A-Za-z][A-Za-z0-9_]*\Z", name)
            self.assertFalse(bound & UNUSED, name)
            self.assertFalse({word for word in bound if word in dir(__import__("builtins"))}, name)
            imported = {alias.name for part in tree.body if isinstance(part, ast.ImportFrom) for alias in part.names}
            classes = {part.name for part in tree.body if isinstance(part, ast.ClassDef)}
            read = {part.id for part in ast.walk(tree) if isinstance(part, ast.Name) and isinstance(part.ctx, ast.Load)}
            self.assertLessEqual(read, bound | imported | OWN_NAMES, name)
            self.assertFalse(read & UNUSED, name)
            inner = [part.arg for part in ast.walk(tree) if isinstance(part, ast.arg)]
            inner += [part.id for part in ast.walk(tree) if isinstance(part, ast.Name) and isinstance(part.ctx, ast.Store)]
            self.assertFalse(set(inner) & (imported | classes), name)

    def test_methods_and_values(self):
        methods = {part.name for where, owner in self.parts(ast.ClassDef) for part in owner.body
                   if isinstance(part, ast.FunctionDef)}
        values = {part.attr for where, part in self.parts(ast.Attribute) if isinstance(part.ctx, ast.Store)}
        self.assertFalse(methods & values)
        taken = {word for kind in (str, int, list, dict, set, bytes) for word in dir(kind)}
        self.assertFalse((methods - {"__init__"} | values) & taken)
        called = {id(part.func) for where, part in self.parts(ast.Call)}
        for where, part in self.parts(ast.Attribute):
            self.assertIn(part.attr, methods | values | OWN_METHODS, where)
            if part.attr in OWN_METHODS | methods:
                self.assertIn(id(part), called, where)
        for where, part in self.parts(ast.Call):
            self.assertFalse([word for word in part.keywords if word.arg not in
                              ("key", "reverse", "default", "start", "strict")], where)

    def test_sets_and_walks(self):
        for where, part in self.parts(ast.For):
            walked = ast.dump(part.iter)
            for inner in ast.walk(part):
                if isinstance(inner, ast.Call) and isinstance(inner.func, ast.Attribute) and inner.func.attr in CHANGES:
                    self.assertNotEqual(ast.dump(inner.func.value), walked, where)
        for where, part in self.parts(ast.ExceptHandler):
            self.assertIsInstance(part.type, ast.Name, where)
            self.assertNotIn(part.type.id, ("Exception", "TypeError"), where)


if __name__ == "__main__":
    unittest.main()

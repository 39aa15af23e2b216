"""The package's files keep to the part of Python that the program is written in: what of it can be counted."""

import ast
import builtins
import re
import unittest
from pathlib import Path

PACKAGE = Path(__file__).resolve().parent.parent / "openpit"

STATEMENTS = (ast.Assign, ast.AugAssign, ast.If, ast.While, ast.For, ast.Return, ast.Break, ast.Continue, ast.Pass,
              ast.Raise, ast.Try, ast.Expr, ast.FunctionDef, ast.ClassDef, ast.ImportFrom)
EXPRESSIONS = (ast.Constant, ast.Name, ast.Attribute, ast.Subscript, ast.Slice, ast.Call, ast.BinOp, ast.UnaryOp,
               ast.BoolOp, ast.Compare, ast.IfExp, ast.List, ast.Tuple, ast.Dict, ast.ListComp, ast.Lambda,
               ast.JoinedStr, ast.FormattedValue)
PYTHONS_OWN = set("""len range enumerate zip min max sum abs sorted reversed int str bool list tuple dict set frozenset
    isinstance ord repr any all divmod Exception ValueError TypeError KeyError IndexError LookupError
    ZeroDivisionError ArithmeticError OverflowError RuntimeError NotImplementedError AttributeError
    StopIteration""".split())
METHODS = set("""append clear copy count endswith extend find get index insert isalnum isalpha isdigit islower isspace
    isupper items join keys ljust lower lstrip partition pop remove replace reverse rfind rjust rpartition rsplit
    rstrip setdefault split splitlines startswith strip update upper values zfill bit_length""".split())
CHANGES = set("append clear extend insert pop remove reverse setdefault update".split())
WALKED = set("zip enumerate reversed range".split())
WALKERS = set("list tuple dict sorted sum any all enumerate zip min max".split())
NOWHERE = set("register mro elements open input version_info with_traceback add_note format format_map".split())
NOT_AS_NAMES = set("""attrgetter breakpoint builtins compile copyright credits delattr dir eval exec exit gc getattr
    globals hasattr help id importlib license locals methodcaller os quit setattr super type vars sys chr""".split())
WORDS = set("""type typing typing_extensions enum Enum IntEnum StrEnum Flag IntFlag Generic Protocol ABC ABCMeta
    namedtuple NamedTuple TypedDict TYPE_CHECKING abstractmethod""".split())
WORD_PARTS = ("dataclass", "overload", "contextmanager")
FILE_NAMES = set("test tests testing site conftest sitecustomize usercustomize".split())
OWN_ATTRIBUTES = set(dir(str) + dir(int) + dir(list) + dir(dict) + dir(set) + dir(bytes))
FREE_VALUES = set("count index title find get join lower upper split strip copy add".split())


def bound_names(tree):
    """Every name that a file gives a meaning."""
    found = []
    for node in ast.walk(tree):
        if isinstance(node, (ast.FunctionDef, ast.ClassDef)):
            found.append(node.name)
        if isinstance(node, ast.arg):
            found.append(node.arg)
        if isinstance(node, ast.Name) and isinstance(node.ctx, ast.Store):
            found.append(node.id)
        if isinstance(node, ast.ExceptHandler) and node.name:
            found.append(node.name)
        if isinstance(node, ast.ImportFrom):
            found.extend([alias.asname or alias.name for alias in node.names])
    return found


def is_plain(node, defined):
    if isinstance(node, ast.UnaryOp):
        return isinstance(node.op, ast.USub) and is_plain(node.operand, defined)
    if isinstance(node, (ast.List, ast.Tuple)):
        return all(is_plain(one, defined) for one in node.elts)
    if isinstance(node, ast.Dict):
        return all(is_plain(one, defined) for one in node.keys + node.values)
    if isinstance(node, ast.Name):
        return node.id in defined
    return isinstance(node, ast.Constant)


def is_plain_default(node):
    """True if a default is a whole number, a text, True, False or None."""
    if isinstance(node, ast.UnaryOp) and isinstance(node.op, ast.USub):
        return isinstance(node.operand, ast.Constant) and type(node.operand.value) is int
    return isinstance(node, ast.Constant) and type(node.value) in (int, str, bool, type(None))


def defaults_of(node):
    """The defaults of a def or a lambda, those behind a bare star too."""
    return [one for one in node.args.defaults + node.args.kw_defaults if one is not None]


class LanguageTest(unittest.TestCase):
    def setUp(self):
        paths = sorted(PACKAGE.glob("*.py"))
        self.texts = {path.stem: path.read_text(encoding="utf-8") for path in paths}
        self.trees = {name: ast.parse(text) for name, text in self.texts.items()}

    def nodes(self, *kinds):
        """Every node of these kinds, with the place to tell."""
        for name, tree in self.trees.items():
            for node in ast.walk(tree):
                if isinstance(node, kinds):
                    yield "%s:%d" % (name, getattr(node, "lineno", 0)), node

    def test_files(self):
        for path in PACKAGE.iterdir():
            self.assertRegex(path.name, r"^([a-z][a-z0-9_]*|__init__)\.py$")
            self.assertNotIn(path.stem, FILE_NAMES | WORDS | set(dir(builtins)))

    def test_signs_and_sizes(self):
        for name, text in self.texts.items():
            self.assertRegex(text, r"\A[\n -~]*\Z", name)
            rows = text.split("\n")
            self.assertLessEqual(len(rows), 400, name)
            self.assertLessEqual(max(len(row) for row in rows), 120, name)
        for where, node in self.nodes(ast.FunctionDef):
            self.assertLessEqual(node.end_lineno - node.lineno + 1, 40, where)

    def test_words(self):
        for name, text in self.texts.items():
            self.assertEqual(WORDS & set(re.findall(r"[A-Za-z_0-9]+", text)), set(), name)
            for part in WORD_PARTS:
                self.assertNotIn(part, text)

    def test_statements_and_expressions(self):
        for where, node in self.nodes(ast.stmt):
            self.assertIsInstance(node, STATEMENTS, where)
            self.assertFalse(isinstance(node, (ast.For, ast.While)) and node.orelse, where)
            self.assertFalse(isinstance(node, ast.Try) and node.finalbody, where)
            self.assertFalse(isinstance(node, ast.Assign) and len(node.targets) != 1, where)
            if isinstance(node, ast.Expr):
                self.assertIsInstance(node.value, (ast.Call, ast.Constant), where)
        for where, node in self.nodes(ast.expr):
            self.assertIsInstance(node, EXPRESSIONS, where)
            if isinstance(node, ast.BinOp):
                self.assertNotIsInstance(node.op, (ast.Div, ast.MatMult, ast.Pow), where)
            if isinstance(node, ast.ListComp):
                self.assertEqual(len(node.generators), 1, where)
                self.assertLessEqual(len(node.generators[0].ifs), 1, where)
            if isinstance(node, ast.Constant):
                self.assertIn(type(node.value), (int, str, bool, type(None)), where)
            if isinstance(node, ast.Compare) and any(isinstance(op, (ast.Is, ast.IsNot)) for op in node.ops):
                self.assertIsInstance(node.comparators[0], ast.Constant, where)
                self.assertIn(node.comparators[0].value, (None, True, False), where)

    def test_texts(self):
        for where, node in self.nodes(ast.Constant):
            if isinstance(node.value, str):
                self.assertNotIn("%", node.value, where)

    def test_top_of_a_file(self):
        for name, tree in self.trees.items():
            self.assertIsInstance(ast.get_docstring(tree), str, name)
            defined = []
            bound = []
            for node in tree.body[1:]:
                self.assertIsInstance(node, (ast.ImportFrom, ast.FunctionDef, ast.ClassDef, ast.Assign), name)
                if isinstance(node, ast.FunctionDef):
                    defined.append(node.name)
                if isinstance(node, ast.Assign):
                    self.assertTrue(is_plain(node.value, defined), "%s:%d" % (name, node.lineno))
                    bound.append(node.targets[0].id)
                elif not isinstance(node, ast.ImportFrom):
                    bound.append(node.name)
                else:
                    bound.extend([alias.name for alias in node.names])
            self.assertEqual(len(bound), len(set(bound)), name)

    def test_imports(self):
        drawn = {}
        for name, tree in self.trees.items():
            drawn[name] = []
            for node in ast.walk(tree):
                if isinstance(node, ast.ImportFrom):
                    self.assertIn(node, tree.body)
                    package, dot, source = node.module.partition(".")
                    self.assertEqual((package, node.level), ("openpit", 0))
                    drawn[name].append(source)
                    defined = [one.name for one in self.trees[source].body if hasattr(one, "name")]
                    for alias in node.names:
                        self.assertIn(alias.name, defined)
                        self.assertIsNone(alias.asname)
        while drawn:
            free = [name for name in drawn if not set(drawn[name]) & set(drawn)]
            self.assertTrue(free, "files draw from one another")
            drawn = {name: drawn[name] for name in drawn if name not in free}

    def test_defs_and_classes(self):
        for where, node in self.nodes(ast.FunctionDef, ast.Lambda):
            extra = node.args.vararg or node.args.kwarg or node.args.kwonlyargs or node.args.posonlyargs
            self.assertFalse(extra, where)
        for where, node in self.nodes(ast.FunctionDef, ast.ClassDef):
            self.assertEqual(node.decorator_list, [], where)
        for where, node in self.nodes(ast.arg):
            self.assertIsNone(node.annotation, where)
        for where, node in self.nodes(ast.ClassDef):
            self.assertLessEqual(len(node.bases), 1, where)
            self.assertEqual(node.keywords, [], where)
            for one in node.body[1:]:
                self.assertIsInstance(one, ast.FunctionDef, where)
            for one in node.body:
                if isinstance(one, ast.FunctionDef) and one.name.startswith("_"):
                    self.assertEqual(one.name, "__init__", where)

    def test_defaults_are_plain_values(self):
        for where, node in self.nodes(ast.FunctionDef, ast.Lambda):
            for one in defaults_of(node):
                self.assertTrue(is_plain_default(one), where)

    def test_what_counts_as_a_plain_default(self):
        for text in ("0", "-1", "4294967295", "''", "'a text'", "True", "False", "None"):
            for form in ("def f(a, b=%s):\n    pass", "lambda a, b=%s: a", "def f(a, *, b=%s):\n    pass"):
                self.assertEqual(self.plain_defaults(form % text), [True], text)
        for text in ("()", "(1, 2)", "[]", "[1]", "{}", "{1}", "READ", "len", "f()", "1 + 1", "-x", "1.5", "b''", "...",
                     "not True", "f'{a}'", "lambda: 0", "a.b", "a[0]", "-'a'", "-True", "~1"):
            for form in ("def f(a, b=%s):\n    pass", "lambda a, b=%s: a", "def f(a, *, b=%s):\n    pass"):
                self.assertEqual(self.plain_defaults(form % text), [False], text)

    def plain_defaults(self, text):
        outer = ast.parse(text).body[0]
        return [is_plain_default(one) for one in defaults_of(outer.value if isinstance(outer, ast.Expr) else outer)]

    def test_names(self):
        own = set(dir(builtins))
        for name, tree in self.trees.items():
            bound = bound_names(tree)
            for one in bound:
                self.assertTrue(one == "__init__" or re.fullmatch("[A-Za-z][A-Za-z0-9_]*", one), one)
                self.assertNotIn(one, own | NOWHERE | NOT_AS_NAMES, name)
            for node in ast.walk(tree):
                if isinstance(node, ast.Name) and node.id not in bound:
                    self.assertIn(node.id, PYTHONS_OWN, name)
            fixed = [one.name for one in tree.body if isinstance(one, ast.ClassDef)]
            for node in tree.body:
                if isinstance(node, ast.ImportFrom):
                    fixed.extend([alias.name for alias in node.names])
            for one in fixed:
                self.assertEqual(bound.count(one), 1, name + ": " + one)

    def test_methods_and_values(self):
        methods = {one.name for where, node in self.nodes(ast.ClassDef) for one in node.body
                   if isinstance(one, ast.FunctionDef)}
        values = {node.attr for where, node in self.nodes(ast.Attribute) if isinstance(node.ctx, ast.Store)}
        self.assertEqual(methods & values, set())
        self.assertEqual(values & (OWN_ATTRIBUTES - FREE_VALUES), set())
        self.assertEqual((methods - {"__init__"}) & (OWN_ATTRIBUTES - METHODS - {"add", "discard"}), set())
        called = {node.func for where, node in self.nodes(ast.Call) if isinstance(node.func, ast.Attribute)}
        for where, node in self.nodes(ast.Attribute):
            self.assertNotIn(node.attr, NOWHERE, where)
            self.assertIn(node.attr, methods | METHODS if node in called else values, where)

    def test_walked_at_once(self):
        kept = {node for where, node in self.nodes(ast.Call) if self.name_of(node) in WALKED}
        for where, node in self.nodes(ast.For, ast.comprehension):
            kept.discard(node.iter)
        for where, node in self.nodes(ast.Call):
            if self.name_of(node) in WALKERS and node.args:
                kept.discard(node.args[0])
        self.assertEqual([node.lineno for node in kept], [])

    def name_of(self, call):
        return call.func.id if isinstance(call.func, ast.Name) else getattr(call.func, "attr", None)

    def test_what_a_loop_walks_is_not_changed_in_it(self):
        for where, node in self.nodes(ast.For):
            walked = ast.dump(node.iter)
            for one in ast.walk(node):
                if isinstance(one, ast.Call) and self.name_of(one) in CHANGES:
                    self.assertNotEqual(ast.dump(one.func.value), walked, where)

    def test_lists_and_dicts_at_the_top_are_only_read(self):
        for name, tree in self.trees.items():
            tops = [node for node in tree.body if isinstance(node, ast.Assign)]
            kept = {node.targets[0].id for node in tops if isinstance(node.value, (ast.List, ast.Dict))}
            for node in tops:
                for one in getattr(node.value, "elts", getattr(node.value, "values", [])):
                    self.assertNotIsInstance(one, (ast.List, ast.Dict), name)
            read = [node.value for node in ast.walk(tree)
                    if isinstance(node, ast.Subscript) and isinstance(node.ctx, ast.Load)]
            for node in ast.walk(tree):
                if isinstance(node, ast.Name) and isinstance(node.ctx, ast.Load) and node.id in kept:
                    self.assertIn(node, read, "%s:%d" % (name, node.lineno))

    def test_errors(self):
        own = {node.name for where, node in self.nodes(ast.ClassDef)}
        for where, node in self.nodes(ast.ExceptHandler):
            self.assertIsInstance(node.type, ast.Name, where)
            self.assertIn(node.type.id, own | {"KeyError", "ZeroDivisionError", "StopIteration"}, where)
        for where, node in self.nodes(ast.Raise):
            self.assertIsInstance(node.exc, ast.Call, where)


if __name__ == "__main__":
    unittest.main()

"""The package keeps to the plain part of Python that it's written in: what of it can be seen by machine."""

import ast
import pathlib
import re
import unittest

PACKAGE = pathlib.Path(__file__).resolve().parent.parent / "offsettables"
FILES = sorted(PACKAGE.rglob("*.py"))

STATEMENTS = (ast.FunctionDef, ast.ClassDef, ast.Return, ast.Assign, ast.AugAssign, ast.For, ast.While, ast.If, ast.Raise,
              ast.Try, ast.ImportFrom, ast.Expr, ast.Pass, ast.Break, ast.Continue)
EXPRESSIONS = (ast.BoolOp, ast.BinOp, ast.UnaryOp, ast.Lambda, ast.IfExp, ast.Dict, ast.ListComp, ast.Compare, ast.Call,
               ast.JoinedStr, ast.FormattedValue, ast.Constant, ast.Attribute, ast.Subscript, ast.Name, ast.List, ast.Tuple,
               ast.Slice)
OWN_NAMES = set("""len range enumerate zip min max sum abs sorted reversed int str bool list tuple dict isinstance ord repr
    any all divmod Exception ValueError KeyError IndexError LookupError ZeroDivisionError ArithmeticError OverflowError
    RuntimeError NotImplementedError""".split())
OWN_METHODS = set("""append clear copy count endswith extend find get index insert isalnum isalpha isdigit islower isspace
    isupper items join keys ljust lower lstrip partition pop remove replace reverse rfind rjust rpartition rsplit rstrip
    setdefault split splitlines startswith strip update upper values zfill bit_length""".split())
BARRED_WORDS = set("""type typing typing_extensions enum Enum IntEnum StrEnum Flag IntFlag Generic Protocol ABC ABCMeta
    namedtuple NamedTuple TypedDict TYPE_CHECKING abstractmethod""".split())
BARRED_NAMES = set("""register mro elements open input version_info with_traceback add_note format format_map args encode
    eval exec getattr setattr globals locals vars super dir help id exit quit hash next map filter bytes chr set
    frozenset object float property iter round pow print""".split())


def written_attributes(tree):
    return {node.attr for node in ast.walk(tree) if isinstance(node, ast.Attribute) and isinstance(node.ctx, ast.Store)}


def methods(tree):
    return {item.name for node in ast.walk(tree) if isinstance(node, ast.ClassDef) for item in node.body
            if isinstance(item, ast.FunctionDef)}


def bound_names(tree):
    bound = set()
    for node in ast.walk(tree):
        if isinstance(node, ast.Name) and isinstance(node.ctx, ast.Store):
            bound.add(node.id)
        if isinstance(node, (ast.FunctionDef, ast.ClassDef)):
            bound.add(node.name)
        if isinstance(node, ast.arg):
            bound.add(node.arg)
        if isinstance(node, ast.alias):
            bound.add(node.name)
        if isinstance(node, ast.ExceptHandler) and node.name:
            bound.add(node.name)
    return bound


class Language(unittest.TestCase):
    def setUp(self):
        self.sources = {path: path.read_text(encoding="utf-8") for path in FILES}
        self.trees = {path: ast.parse(source) for path, source in self.sources.items()}

    def each(self, check):
        for path in FILES:
            with self.subTest(file=path.name):
                check(self.sources[path], self.trees[path])

    def test_the_package_holds_plain_files_alone(self):
        there = [path for path in PACKAGE.rglob("*") if "__pycache__" not in path.parts]
        self.assertEqual(sorted(there), FILES)
        self.assertIn(PACKAGE / "__init__.py", FILES)
        for path in FILES:
            self.assertRegex(path.name, r"\A([a-z][a-z0-9_]*|__init__)\.py\Z")

    def test_signs_and_words(self):
        def check(source, tree):
            self.assertRegex(source, r"\A[ -~\n]*\Z")
            self.assertFalse(BARRED_WORDS & set(re.findall(r"\w+", source)))
            texts = [node.value for node in ast.walk(tree) if isinstance(node, ast.Constant)]
            self.assertFalse([value for value in texts if isinstance(value, str) and "%" in value])
            self.assertTrue(all(value is None or isinstance(value, (int, str)) for value in texts))

        self.each(check)

    def test_sizes(self):
        def check(source, tree):
            lines = source.splitlines()
            self.assertLessEqual(len(lines), 400)
            self.assertLessEqual(max(map(len, lines)), 120)
            for node in ast.walk(tree):
                if isinstance(node, ast.FunctionDef):
                    self.assertLessEqual(node.end_lineno - node.lineno + 1, 40, node.name)

        self.each(check)

    def test_statements_and_expressions(self):
        def check(source, tree):
            for node in ast.walk(tree):
                if isinstance(node, ast.stmt):
                    self.assertIsInstance(node, STATEMENTS)
                if isinstance(node, ast.expr):
                    self.assertIsInstance(node, EXPRESSIONS)
                self.assertNotIsInstance(node, (ast.Div, ast.Starred))
                self.assertFalse(getattr(node, "decorator_list", []))
                if isinstance(node, ast.Assign):
                    self.assertEqual(len(node.targets), 1)
                if isinstance(node, (ast.For, ast.While)):
                    self.assertEqual(node.orelse, [])
                if isinstance(node, ast.Try):
                    self.assertEqual(node.finalbody, [])
                    self.assertTrue(all(handler.type is not None for handler in node.handlers))
                if isinstance(node, ast.arguments):
                    self.assertEqual([node.vararg, node.kwarg, node.kwonlyargs, node.posonlyargs], [None, None, [], []])

        self.each(check)

    def test_imports(self):
        def check(source, tree):
            for node in ast.walk(tree):
                if isinstance(node, ast.ImportFrom):
                    self.assertIn(node, tree.body)
                    self.assertEqual(node.level, 0)
                    home = PACKAGE.parent / (node.module.replace(".", "/") + ".py")
                    self.assertIn(home, FILES)
                    for alias in node.names:
                        self.assertIn(alias.name, [getattr(made, "name", None) or made.targets[0].id
                                                   for made in self.trees[home].body
                                                   if isinstance(made, (ast.FunctionDef, ast.ClassDef, ast.Assign))])

        self.each(check)

    def test_names(self):
        def check(source, tree):
            bound = bound_names(tree)
            for name in bound - {"__init__"}:
                self.assertRegex(name, r"\A[A-Za-z][A-Za-z0-9_]*\Z")
            self.assertFalse(bound & (OWN_NAMES | BARRED_NAMES))
            read = {node.id for node in ast.walk(tree) if isinstance(node, ast.Name)}
            self.assertFalse(read - bound - OWN_NAMES)

        self.each(check)

    def test_methods_and_values(self):
        values = set().union(*[written_attributes(tree) for tree in self.trees.values()])
        own = set().union(*[methods(tree) for tree in self.trees.values()])
        self.assertFalse(values & own)
        of_python = set().union(*[dir(made) for made in (0, "", [], {}, set(), b"", ())])
        self.assertFalse((values | own - {"__init__"}) & of_python)

        def check(source, tree):
            asked = {node.attr for node in ast.walk(tree) if isinstance(node, ast.Attribute)}
            self.assertFalse(asked - values - own - OWN_METHODS)

        self.each(check)


if __name__ == "__main__":
    unittest.main()

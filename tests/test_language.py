"""The package keeps to the small language that it is written in, as far as a look at the code can tell."""

import ast
import pathlib
import re
import unittest

PACKAGE = pathlib.Path(__file__).resolve().parent.parent / "tipwell"
FILES = sorted(path for path in PACKAGE.rglob("*") if "__pycache__" not in path.parts)

BUILTINS = set(
    "len range enumerate zip min max sum abs sorted reversed int str bool bytes list tuple dict set frozenset "
    "isinstance ord repr any all divmod Exception ValueError TypeError KeyError IndexError LookupError "
    "ZeroDivisionError ArithmeticError OverflowError RuntimeError NotImplementedError AttributeError "
    "StopIteration".split()
)
BARRED_WORDS = (
    r"\b(type|typing|typing_extensions|enum|Enum|IntEnum|StrEnum|Flag|IntFlag|Generic|Protocol|ABC|ABCMeta"
    r"|namedtuple|NamedTuple|TypedDict|TYPE_CHECKING|abstractmethod)\b|dataclass|overload|contextmanager"
)
BARRED_NODES = (
    ast.With, ast.Match, ast.Global, ast.Nonlocal, ast.Yield, ast.YieldFrom, ast.AsyncFunctionDef, ast.Await,
    ast.GeneratorExp, ast.NamedExpr, ast.Div, ast.MatMult, ast.Import,
)
BARRED_NAMES = set("open input register elements mro version_info".split())


def trees():
    for path in FILES:
        yield path, ast.parse(path.read_text(encoding="utf-8"))


class Language(unittest.TestCase):
    def test_files_and_characters(self):
        self.assertIn(PACKAGE / "__init__.py", FILES)
        for path in FILES:
            with self.subTest(path=path.name):
                self.assertRegex(path.name, r"^[a-z0-9_]+\.py$")
                text = path.read_text(encoding="utf-8")
                self.assertRegex(text, r"^[ -~\n]*$")
                self.assertIsNone(re.search(BARRED_WORDS, text))
                self.assertLessEqual(len(text.splitlines()), 400)
                self.assertLessEqual(max(len(line) for line in text.splitlines()), 120)

    def test_functions_are_short_and_plain(self):
        for path, tree in trees():
            for node in ast.walk(tree):
                if isinstance(node, ast.FunctionDef):
                    with self.subTest(path=path.name, function=node.name):
                        self.assertLessEqual(node.end_lineno - node.lineno + 1, 40)
                        self.assertEqual(node.decorator_list, [])
                        self.assertIsNone(node.args.vararg or node.args.kwarg)

    def test_module_level(self):
        plain = (ast.ImportFrom, ast.FunctionDef, ast.ClassDef, ast.Assign)
        for path, tree in trees():
            for place, node in enumerate(tree.body):
                with self.subTest(path=path.name, line=node.lineno):
                    is_docstring = place == 0 and isinstance(node, ast.Expr) and isinstance(node.value, ast.Constant)
                    self.assertTrue(is_docstring or isinstance(node, plain))

    def test_statements_and_expressions(self):
        for path, tree in trees():
            for node in ast.walk(tree):
                line = getattr(node, "lineno", None)
                with self.subTest(path=path.name, line=line):
                    self.assertNotIsInstance(node, BARRED_NODES)
                    if isinstance(node, (ast.For, ast.While)):
                        self.assertEqual(node.orelse, [])
                    if isinstance(node, ast.Constant):
                        self.assertNotIsInstance(node.value, (float, complex))
                    if isinstance(node, ast.ImportFrom):
                        self.assertRegex(node.module, r"^tipwell\.")

    def test_names(self):
        for path, tree in trees():
            nodes = list(ast.walk(tree))
            bound = {node.id for node in nodes if isinstance(node, ast.Name) and isinstance(node.ctx, ast.Store)}
            bound |= {node.arg for node in nodes if isinstance(node, ast.arg)}
            bound |= {node.name for node in nodes if isinstance(node, (ast.FunctionDef, ast.ClassDef))}
            known = bound | {name.name for node in nodes if isinstance(node, ast.ImportFrom) for name in node.names}
            read = {node.id for node in nodes if isinstance(node, ast.Name)}
            with self.subTest(path=path.name):
                self.assertEqual(read - known - BUILTINS, set())
                self.assertEqual(bound & (BUILTINS | BARRED_NAMES), set())
                self.assertEqual({name for name in bound if name.startswith("_") and not name.startswith("__")}, set())

    def test_no_name_is_a_method_and_an_attribute(self):
        methods, attributes = set(), set()
        for _, tree in trees():
            for node in ast.walk(tree):
                if isinstance(node, ast.ClassDef):
                    methods |= {part.name for part in node.body if isinstance(part, ast.FunctionDef)}
                if isinstance(node, ast.Attribute) and isinstance(node.ctx, ast.Store):
                    attributes.add(node.attr)
        self.assertEqual(methods & attributes, set())

    def test_no_two_files_import_from_each_other(self):
        imports = {}
        for path, tree in trees():
            name = f"tipwell.{path.stem}"
            imports[name] = {node.module for node in ast.walk(tree) if isinstance(node, ast.ImportFrom)}
        while imports:
            free = {name for name in imports if not imports[name] & set(imports)}
            self.assertTrue(free, imports)
            imports = {name: needed for name, needed in imports.items() if name not in free}


if __name__ == "__main__":
    unittest.main()

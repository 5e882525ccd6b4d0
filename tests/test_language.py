"""The package keeps to the small part of Python in which it is written."""

import ast
import builtins
import pathlib
import re
import unittest

PACKAGE = pathlib.Path(__file__).resolve().parent.parent / "relaycabinets"
FILES = sorted(PACKAGE.glob("*.py"))

STATEMENTS = (ast.Assign, ast.AugAssign, ast.If, ast.While, ast.For, ast.Return, ast.Break, ast.Continue, ast.Pass,
              ast.Raise, ast.Try, ast.Expr, ast.FunctionDef, ast.ClassDef, ast.ImportFrom)
EXPRESSIONS = (ast.BinOp, ast.UnaryOp, ast.BoolOp, ast.Compare, ast.IfExp, ast.Call, ast.Attribute, ast.Subscript,
               ast.Slice, ast.ListComp, ast.JoinedStr, ast.FormattedValue, ast.Constant, ast.Name, ast.List, ast.Tuple,
               ast.Dict, ast.Lambda)
BUILT_IN = set("""len range enumerate zip min max sum abs sorted reversed int str bool list tuple dict set frozenset
    isinstance ord repr any all divmod Exception ValueError TypeError KeyError IndexError LookupError
    ZeroDivisionError ArithmeticError OverflowError RuntimeError NotImplementedError""".split())
METHODS = set("""append clear copy count endswith extend find get index insert isalnum isalpha isdigit islower isspace
    isupper items join keys ljust lower lstrip partition pop remove replace reverse rfind rjust rpartition rsplit
    rstrip setdefault split splitlines startswith strip update upper values zfill bit_length""".split())
WORDS = set("""type typing typing_extensions enum Enum IntEnum StrEnum Flag IntFlag Generic Protocol ABC ABCMeta
    namedtuple NamedTuple TypedDict TYPE_CHECKING abstractmethod""".split())
TABOO = set("register mro elements open input version_info with_traceback add_note".split())


def defined_names(tree):
    """All names that a file binds."""
    names = set()
    for node in ast.walk(tree):
        if isinstance(node, ast.Name) and isinstance(node.ctx, ast.Store):
            names.add(node.id)
        elif isinstance(node, (ast.FunctionDef, ast.ClassDef)):
            names.add(node.name)
        elif isinstance(node, ast.arg):
            names.add(node.arg)
        elif isinstance(node, ast.alias):
            names.add(node.asname or node.name)
    return names


class Language(unittest.TestCase):
    def setUp(self):
        self.texts = {path.name: path.read_text(encoding="utf-8") for path in FILES}
        self.trees = {name: ast.parse(text) for name, text in self.texts.items()}

    def nodes(self):
        return [(f"{name}:{getattr(node, 'lineno', 0)}", node)
                for name, tree in self.trees.items() for node in ast.walk(tree)]

    def test_files(self):
        found = [path.name for path in PACKAGE.iterdir() if path.name != "__pycache__"]
        self.assertEqual(sorted(found), sorted(self.texts))
        self.assertIn("__init__.py", found)
        for name in found:
            self.assertRegex(name, r"^[a-z0-9_]+\.py$")

    def test_sizes_and_signs(self):
        for name, text in self.texts.items():
            self.assertRegex(text, r"\A[\n -~]*\Z", name)
            self.assertLessEqual(text.count("\n"), 400, name)
            self.assertLessEqual(max(map(len, text.split("\n"))), 120, name)
        for place, node in self.nodes():
            if isinstance(node, ast.FunctionDef):
                self.assertLessEqual(node.end_lineno - node.lineno + 1, 40, place)

    def test_statements_and_expressions(self):
        for place, node in self.nodes():
            if isinstance(node, ast.stmt):
                self.assertIsInstance(node, STATEMENTS, place)
            if isinstance(node, ast.expr):
                self.assertIsInstance(node, EXPRESSIONS, place)
            if isinstance(node, (ast.For, ast.While)):
                self.assertEqual(node.orelse, [], place)
            if isinstance(node, ast.Assign):
                self.assertEqual(len(node.targets), 1, place)
            if isinstance(node, ast.Constant):
                self.assertIn(type(node.value), (int, str, bool, type(None)), place)
            if isinstance(node, ast.ListComp):
                self.assertEqual(len(node.generators), 1, place)
                self.assertLessEqual(len(node.generators[0].ifs), 1, place)
            self.assertNotIsInstance(node, (ast.Div, ast.Starred), place)

    def test_names(self):
        own = set().union(*[defined_names(tree) for tree in self.trees.values()])
        for place, node in self.nodes():
            if isinstance(node, ast.Name):
                self.assertIn(node.id, own | BUILT_IN, place)
        for name in own - {"__init__"}:
            self.assertRegex(name, r"^[a-zA-Z][a-zA-Z0-9_]*$")
            self.assertNotIn(name, set(dir(builtins)) | BUILT_IN | TABOO)

    def test_methods(self):
        own = set().union(*[defined_names(tree) for tree in self.trees.values()])
        for place, node in self.nodes():
            if isinstance(node, ast.Call) and isinstance(node.func, ast.Attribute):
                self.assertIn(node.func.attr, own | METHODS, place)

    def test_words(self):
        for name, text in self.texts.items():
            self.assertEqual(set(re.findall(r"[A-Za-z_]+", text)) & WORDS, set(), name)
            self.assertNotRegex(text, "dataclass|overload|contextmanager", name)

    def test_imports(self):
        for place, node in self.nodes():
            if isinstance(node, ast.ImportFrom):
                self.assertEqual(node.level, 0, place)
                folder, name = node.module.split(".")
                self.assertEqual(folder, "relaycabinets", place)
                at_top = set()
                for statement in self.trees[f"{name}.py"].body:
                    if isinstance(statement, (ast.FunctionDef, ast.ClassDef)):
                        at_top.add(statement.name)
                    elif isinstance(statement, ast.Assign):
                        at_top.add(statement.targets[0].id)
                for alias in node.names:
                    self.assertIn(alias.name, at_top, place)

    def test_no_two_files_draw_from_one_another(self):
        drawn = {name: {f"{node.module.split('.')[1]}.py" for node in tree.body if isinstance(node, ast.ImportFrom)}
                 for name, tree in self.trees.items()}
        done = set()
        while done != set(drawn):
            free = {name for name in drawn if name not in done and drawn[name] <= done}
            self.assertNotEqual(free, set(), f"{sorted(set(drawn) - done)}")
            done |= free

    def test_no_local_is_called_like_an_import_or_a_class(self):
        for name, tree in self.trees.items():
            outer = {node.name for node in tree.body if isinstance(node, ast.ClassDef)}
            for node in tree.body:
                if isinstance(node, ast.ImportFrom):
                    outer |= {alias.name for alias in node.names}
            for function in [node for node in ast.walk(tree) if isinstance(node, ast.FunctionDef)]:
                inner = {node.arg for node in ast.walk(function) if isinstance(node, ast.arg)}
                inner |= {node.id for node in ast.walk(function)
                          if isinstance(node, ast.Name) and isinstance(node.ctx, ast.Store)}
                self.assertEqual(inner & outer, set(), f"{name}:{function.lineno}")

    def test_no_name_is_a_method_here_and_a_value_there(self):
        methods = set()
        values = set()
        for place, node in self.nodes():
            if isinstance(node, ast.ClassDef):
                methods |= {item.name for item in node.body if isinstance(item, ast.FunctionDef)}
            if isinstance(node, ast.Attribute) and isinstance(node.ctx, ast.Store):
                values.add(node.attr)
        self.assertEqual(methods & values, set())


if __name__ == "__main__":
    unittest.main()

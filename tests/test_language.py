"""The package keeps to its small part of Python (those rules that can be read off the files)."""

import ast
import builtins
import pathlib
import re
import unittest

PACKAGE = pathlib.Path(__file__).resolve().parent.parent / "fileoffice"
PYTHON_NAMES = set("""
    len range enumerate zip min max sum abs sorted reversed int str bool list tuple dict set frozenset isinstance ord
    repr any all divmod Exception ValueError TypeError KeyError IndexError LookupError ZeroDivisionError ArithmeticError
    OverflowError RuntimeError NotImplementedError AttributeError StopIteration True False None
""".split())
PYTHON_METHODS = set("""
    append clear copy count endswith extend find get index insert isalnum isalpha isdigit islower isspace isupper items
    join keys ljust lower lstrip partition pop remove replace reverse rfind rjust rpartition rsplit rstrip setdefault
    split splitlines startswith strip update upper values zfill bit_length
""".split())
TAKEN_NAMES = {name for kind in (str, int, list, dict, set, bytes, tuple) for name in dir(kind)}
TAKEN_VALUES = TAKEN_NAMES - set("count index title find get join lower upper split strip copy add".split())
UNUSED_WORDS = re.compile(
    r"\b(type|typing|typing_extensions|enum|Enum|IntEnum|StrEnum|Flag|IntFlag|Generic|Protocol|ABC|ABCMeta|namedtuple"
    r"|NamedTuple|TypedDict|TYPE_CHECKING|abstractmethod|register|mro|elements|open|input)\b"
    r"|dataclass|overload|contextmanager")
NODES = (
    ast.Module, ast.FunctionDef, ast.ClassDef, ast.arguments, ast.arg, ast.Assign, ast.AugAssign, ast.If, ast.While,
    ast.For, ast.Return, ast.Break, ast.Continue, ast.Pass, ast.Raise, ast.Try, ast.ExceptHandler, ast.Expr,
    ast.ImportFrom, ast.alias, ast.Name, ast.Constant, ast.List, ast.Tuple, ast.Dict, ast.Set, ast.BinOp, ast.UnaryOp,
    ast.BoolOp, ast.Compare, ast.IfExp, ast.Call, ast.keyword, ast.Attribute, ast.Subscript, ast.Slice, ast.ListComp,
    ast.comprehension, ast.JoinedStr, ast.FormattedValue, ast.Lambda, ast.expr_context, ast.boolop, ast.operator,
    ast.unaryop, ast.cmpop)


def sources():
    return {path: path.read_text(encoding="utf-8") for path in sorted(PACKAGE.glob("*.py"))}


class Language(unittest.TestCase):
    def nodes(self, *kinds):
        for path, source in sources().items():
            for node in ast.walk(ast.parse(source)):
                if isinstance(node, kinds or ast.AST):
                    yield f"{path.name}:{getattr(node, 'lineno', 0)}", node

    def test_files(self):
        self.assertIn(PACKAGE / "__init__.py", sources())
        for path in PACKAGE.iterdir():
            if path.name != "__pycache__":
                self.assertRegex(path.name, r"^([a-z][a-z0-9_]*|__init__)\.py$")
                self.assertNotIn(path.stem, set(dir(builtins)) | {"test", "tests", "testing", "site", "conftest"})

    def test_signs_words_and_sizes(self):
        for path, source in sources().items():
            self.assertRegex(source, r"\A[ -~\n]*\Z", path.name)
            self.assertLessEqual(source.count("\n"), 400, path.name)
            self.assertLessEqual(max(len(line) for line in source.split("\n")), 120, path.name)
            self.assertIsNone(UNUSED_WORDS.search(source), path.name)

    def test_functions(self):
        for where, node in self.nodes(ast.FunctionDef):
            self.assertLessEqual(node.end_lineno - node.lineno + 1, 40, where)
            found = node.args
            self.assertFalse(node.decorator_list or found.vararg or found.kwarg or found.kwonlyargs, where)
            self.assertIsNone(node.returns, where)

    def test_statements_and_expressions(self):
        for where, node in self.nodes():
            self.assertIsInstance(node, NODES, where)
            if isinstance(node, (ast.For, ast.While)):
                self.assertFalse(node.orelse, where)
            if isinstance(node, ast.Assign):
                self.assertEqual(len(node.targets), 1, where)
            if isinstance(node, ast.Constant):
                self.assertIsInstance(node.value, (int, str, type(None)), where)
            self.assertNotIsInstance(node, (ast.Div, ast.MatMult, ast.Starred), where)
            if isinstance(node, ast.ListComp):
                self.assertEqual(len(node.generators), 1, where)

    def test_a_docstring_stands_at_a_file_s_top_alone(self):
        for path, source in sources().items():
            tree = ast.parse(source)
            self.assertTrue(ast.get_docstring(tree), path.name)
            for node in ast.walk(ast.Module(tree.body[1:], [])):
                if isinstance(node, ast.Expr):
                    self.assertIsInstance(node.value, ast.Call, path.name)

    def test_imports(self):
        drawn = {}
        for path, source in sources().items():
            found = [node for node in ast.walk(ast.parse(source)) if isinstance(node, ast.ImportFrom)]
            for node in found:
                self.assertRegex(node.module, r"^fileoffice\.[a-z]+$", path.name)
                self.assertEqual(node.level, 0)
                self.assertTrue(all(each.name != "*" and each.asname is None for each in node.names))
            drawn[path.stem] = {node.module.split(".")[1] for node in found}
        while drawn:
            free = [name for name, others in drawn.items() if not others & set(drawn)]
            self.assertTrue(free, f"files draw from one another: {sorted(drawn)}")
            drawn = {name: others for name, others in drawn.items() if name not in free}

    def test_names(self):
        for where, node in self.nodes(ast.Name, ast.arg, ast.FunctionDef, ast.ClassDef):
            name = getattr(node, "id", None) or getattr(node, "arg", None) or getattr(node, "name", None)
            if name == "__init__":
                continue
            self.assertRegex(name, r"^[A-Za-z][A-Za-z0-9_]*$", where)
            if name in dir(builtins):
                self.assertIn(name, PYTHON_NAMES, where)
                self.assertTrue(isinstance(node, ast.Name) and isinstance(node.ctx, ast.Load), where)
            if isinstance(node, ast.arg):
                self.assertIsNone(node.annotation, where)

    def test_methods_and_values(self):
        methods = {each.name for where, node in self.nodes(ast.ClassDef) for each in node.body}
        stored = {node.attr for where, node in self.nodes(ast.Attribute) if isinstance(node.ctx, ast.Store)}
        self.assertFalse(methods & stored)
        self.assertFalse((methods - {"__init__"}) & (TAKEN_NAMES - PYTHON_METHODS - {"add", "discard"}))
        self.assertFalse(stored & TAKEN_VALUES)
        for where, node in self.nodes(ast.Attribute):
            self.assertIn(node.attr, methods | stored | PYTHON_METHODS, where)

    def test_is_stands_beside_plain_values_alone(self):
        for where, node in self.nodes(ast.Compare):
            for sign, value in zip(node.ops, node.comparators):
                if isinstance(sign, (ast.Is, ast.IsNot)):
                    self.assertIsInstance(value, ast.Constant, where)
                    self.assertIn(value.value, (None, True, False), where)

    def test_what_stands_at_a_file_s_top(self):
        for path, source in sources().items():
            bound = []
            for node in ast.parse(source).body[1:]:
                self.assertIsInstance(node, (ast.ImportFrom, ast.FunctionDef, ast.ClassDef, ast.Assign), path.name)
                if isinstance(node, ast.Assign):
                    ast.literal_eval(node.value)
                    bound.append(node.targets[0].id)
                elif isinstance(node, ast.ImportFrom):
                    bound.extend(each.name for each in node.names)
                else:
                    bound.append(node.name)
            self.assertEqual(len(bound), len(set(bound)), path.name)


if __name__ == "__main__":
    unittest.main()

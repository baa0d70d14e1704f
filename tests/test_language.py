"""The package's files keep to the small part of Python that they are to be written in."""

import ast
import pathlib
import re
import unittest

PACKAGE = pathlib.Path(__file__).resolve().parent.parent / "roundchains"
FILES = sorted(PACKAGE.glob("*.py"))

STATEMENTS = (
    ast.FunctionDef, ast.ClassDef, ast.ImportFrom, ast.Assign, ast.AugAssign, ast.If, ast.While, ast.For, ast.Return,
    ast.Break, ast.Continue, ast.Pass, ast.Raise, ast.Try, ast.Expr,
)
EXPRESSIONS = (
    ast.BoolOp, ast.BinOp, ast.UnaryOp, ast.Lambda, ast.IfExp, ast.Dict, ast.ListComp, ast.Compare, ast.Call,
    ast.FormattedValue, ast.JoinedStr, ast.Constant, ast.Attribute, ast.Subscript, ast.Name, ast.List, ast.Tuple,
    ast.Slice,
)
OWN_NAMES = (
    "len range enumerate zip min max sum abs sorted reversed int str bool list tuple dict set frozenset isinstance ord "
    "repr any all divmod Exception ValueError KeyError IndexError LookupError ZeroDivisionError"
).split()
METHODS = (
    "append clear copy count endswith extend find get index insert isalnum isalpha isdigit islower isspace isupper "
    "items join keys ljust lower lstrip partition pop remove replace reverse rfind rjust rpartition rsplit rstrip "
    "setdefault split splitlines startswith strip update upper values zfill bit_length"
).split()
BANNED_WORDS = (
    "type typing typing_extensions enum Enum IntEnum StrEnum Flag IntFlag Generic Protocol ABC ABCMeta namedtuple "
    "NamedTuple TypedDict TYPE_CHECKING abstractmethod"
).split()
TAKEN = {name for kind in (str, int, list, dict, set, bytes, float) for name in dir(kind)} - {"title", "count", "index"}


def parsed():
    return [(path, path.read_text(encoding="ascii")) for path in FILES]


def nodes(kind):
    for path, text in parsed():
        for node in ast.walk(ast.parse(text)):
            if isinstance(node, kind):
                yield path.name, node


class TestFiles(unittest.TestCase):
    def test_nothing_else_lies_in_the_package(self):
        found = {path.name for path in PACKAGE.iterdir()} - {"__pycache__"}
        self.assertEqual(found, {path.name for path in FILES})
        self.assertIn("__init__.py", found)

    def test_signs_and_sizes(self):
        for path, text in parsed():
            self.assertTrue(all(sign == "\n" or " " <= sign <= "~" for sign in text), path)
            lines = text.split("\n")
            self.assertLessEqual(len(lines), 400, path)
            self.assertLessEqual(max(len(line) for line in lines), 120, path)

    def test_functions_are_short(self):
        for name, node in nodes(ast.FunctionDef):
            self.assertLessEqual(node.end_lineno - node.lineno + 1, 40, (name, node.name))

    def test_words_that_stand_nowhere(self):
        for path, text in parsed():
            self.assertFalse(set(re.findall(r"\w+", text)) & set(BANNED_WORDS), path)
            self.assertIsNone(re.search("dataclass|overload|contextmanager", text), path)


class TestForm(unittest.TestCase):
    def test_only_plain_statements_and_expressions(self):
        for name, node in nodes((ast.stmt, ast.expr)):
            wanted = STATEMENTS if isinstance(node, ast.stmt) else EXPRESSIONS
            self.assertIsInstance(node, wanted, (name, node.lineno))

    def test_imports(self):
        defined = {}
        for path, text in parsed():
            top = ast.parse(text).body
            names = {node.name for node in top if isinstance(node, (ast.FunctionDef, ast.ClassDef))}
            names |= {node.targets[0].id for node in top if isinstance(node, ast.Assign)}
            defined["roundchains." + path.stem] = names
        for name, node in nodes(ast.ImportFrom):
            self.assertEqual(node.level, 0)
            for alias in node.names:
                self.assertIn(alias.name, defined[node.module], (name, node.lineno))
                self.assertIsNone(alias.asname)

    def test_assignments_have_one_plain_target(self):
        for name, node in nodes(ast.Assign):
            self.assertEqual(len(node.targets), 1)
            self.assertNotIsInstance(node.targets[0], (ast.Tuple, ast.List), (name, node.lineno))

    def test_constants(self):
        for name, node in nodes(ast.Constant):
            self.assertIn(type(node.value), (int, str, bool, type(None)), (name, node.lineno))
            if isinstance(node.value, str):
                self.assertNotIn("%", node.value)

    def test_operators(self):
        for name, node in nodes(ast.BinOp):
            self.assertNotIsInstance(node.op, (ast.Div, ast.MatMult, ast.Pow), (name, node.lineno))
        for name, node in nodes(ast.Compare):
            for sign, side in zip(node.ops, node.comparators):
                if isinstance(sign, (ast.Is, ast.IsNot)):
                    self.assertIsInstance(side, ast.Constant)

    def test_functions_have_plain_parameters(self):
        for name, node in nodes(ast.FunctionDef):
            arguments = node.args
            self.assertFalse(arguments.vararg or arguments.kwarg or arguments.kwonlyargs or arguments.posonlyargs)
            self.assertFalse(node.decorator_list)

    def test_loops_have_no_else(self):
        for name, node in nodes((ast.For, ast.While)):
            self.assertFalse(node.orelse, (name, node.lineno))

    def test_a_comprehension_has_one_walk(self):
        for name, node in nodes(ast.ListComp):
            self.assertEqual(len(node.generators), 1)
            self.assertLessEqual(len(node.generators[0].ifs), 1)


class TestNames(unittest.TestCase):
    def test_names_are_bound_here_or_allowed(self):
        for path, text in parsed():
            tree = ast.parse(text)
            bound = set()
            for node in ast.walk(tree):
                if isinstance(node, (ast.FunctionDef, ast.ClassDef)):
                    bound.add(node.name)
                elif isinstance(node, ast.arg):
                    bound.add(node.arg)
                elif isinstance(node, ast.alias):
                    bound.add(node.name)
                elif isinstance(node, ast.Name) and isinstance(node.ctx, ast.Store):
                    bound.add(node.id)
                elif isinstance(node, ast.ExceptHandler):
                    bound.add(node.name)
            builtin = set(dir(__builtins__) if not isinstance(__builtins__, dict) else __builtins__)
            self.assertFalse(bound & builtin, path)
            self.assertFalse({name for name in bound if name.startswith("_")} - {"__init__"}, path)
            used = {node.id for node in ast.walk(tree) if isinstance(node, ast.Name)}
            self.assertFalse(used - bound - set(OWN_NAMES), path)

    def test_locals_are_not_called_like_an_import_or_a_class(self):
        for path, text in parsed():
            tree = ast.parse(text)
            above = {alias.name for node in tree.body if isinstance(node, ast.ImportFrom) for alias in node.names}
            above |= {node.name for node in tree.body if isinstance(node, (ast.ClassDef, ast.FunctionDef))}
            inner = {node.arg for node in ast.walk(tree) if isinstance(node, ast.arg)}
            inner |= {node.id for node in ast.walk(tree) if isinstance(node, ast.Name) and isinstance(node.ctx, ast.Store)}
            self.assertFalse(above & inner, path)

    def test_methods_and_values_of_objects(self):
        methods = set()
        for name, node in nodes(ast.ClassDef):
            methods |= {part.name for part in node.body if isinstance(part, ast.FunctionDef)}
        values = {node.attr for _, node in nodes(ast.Attribute) if isinstance(node.ctx, ast.Store)}
        self.assertFalse(methods & values)
        self.assertFalse((methods - {"__init__"}) & TAKEN)
        self.assertFalse(values & TAKEN)
        used = {node.attr for _, node in nodes(ast.Attribute)}
        self.assertFalse(used - methods - values - set(METHODS))


if __name__ == "__main__":
    unittest.main()

"""The package keeps to the rules of LANGUAGE.md that can be seen from its text."""

import ast
import builtins
import pathlib
import re
import unittest

import sealedrowsdesk

PACKAGE = pathlib.Path(sealedrowsdesk.__file__).parent
FILES = sorted(PACKAGE.rglob("*.py"))

PYTHON_NAMES = [word for word in dir(builtins) if not word.startswith("_")]
STATEMENTS = (
    ast.FunctionDef, ast.ClassDef, ast.ImportFrom, ast.Assign, ast.AugAssign, ast.If, ast.While, ast.For,
    ast.Return, ast.Break, ast.Continue, ast.Pass, ast.Raise, ast.Try, ast.Expr,
)
EXPRESSIONS_OUT = (
    ast.Starred, ast.GeneratorExp, ast.SetComp, ast.DictComp, ast.NamedExpr, ast.Await, ast.Yield, ast.YieldFrom,
    ast.Div, ast.MatMult,
)
OWN_NAMES = set(
    "len range enumerate zip min max sum abs sorted reversed int str bool list tuple dict set frozenset isinstance "
    "ord repr any all divmod Exception ValueError TypeError KeyError IndexError LookupError ZeroDivisionError "
    "ArithmeticError OverflowError RuntimeError NotImplementedError AttributeError StopIteration".split()
)
METHODS = set(
    "append clear copy count endswith extend find get index insert isalnum isalpha isdigit islower isspace isupper "
    "items join keys ljust lower lstrip partition pop remove replace reverse rfind rjust rpartition rsplit rstrip "
    "setdefault split splitlines startswith strip update upper values zfill bit_length".split()
)
NAMES_OUT = set(
    "register mro elements open input version_info with_traceback add_note attrgetter breakpoint builtins compile "
    "copyright credits delattr dir eval exec exit gc getattr globals hasattr help id importlib license locals "
    "methodcaller os quit setattr super type vars sys".split()
)
WORDS_OUT = re.compile(
    r"\b(type|typing|typing_extensions|enum|Enum|IntEnum|StrEnum|Flag|IntFlag|Generic|Protocol|ABC|ABCMeta|namedtuple"
    r"|NamedTuple|TypedDict|TYPE_CHECKING|abstractmethod)\b|dataclass|overload|contextmanager"
)
PYTHON_ATTRIBUTES = {word for kind in (str, int, list, dict, set, frozenset, bytes, tuple) for word in dir(kind)}


def trees():
    return [(path.name, ast.parse(path.read_text(encoding="utf-8"))) for path in FILES]


def nodes(kinds):
    return [(name, node) for name, tree in trees() for node in ast.walk(tree) if isinstance(node, kinds)]


def bound_names(tree):
    """Names that a tree binds: functions, classes, parameters, what is assigned and what is imported."""
    for node in ast.walk(tree):
        if isinstance(node, (ast.FunctionDef, ast.ClassDef)):
            yield node.name
        elif isinstance(node, ast.arg):
            yield node.arg
        elif isinstance(node, ast.Name) and isinstance(node.ctx, ast.Store):
            yield node.id
        elif isinstance(node, ast.alias):
            yield node.asname or node.name


class LanguageTest(unittest.TestCase):
    def test_package_holds_plain_files_alone(self):
        found = [path for path in PACKAGE.rglob("*") if "__pycache__" not in path.parts]
        self.assertEqual(sorted(path for path in found if path.is_file()), FILES)
        for path in FILES:
            self.assertRegex(path.name, r"^([a-z][a-z0-9_]*|__init__|__main__)\.py$")
            self.assertNotIn(path.stem, PYTHON_NAMES)

    def test_signs_and_sizes(self):
        for path in FILES:
            text = path.read_text(encoding="utf-8")
            self.assertRegex(text, r"\A[ -~\n]*\Z")
            self.assertIsNone(WORDS_OUT.search(text), path.name)
            lines = text.split("\n")
            self.assertLessEqual(len(lines), 400, path.name)
            self.assertLessEqual(max(len(line) for line in lines), 120, path.name)
        for name, node in nodes(ast.FunctionDef):
            self.assertLessEqual(node.end_lineno - node.lineno + 1, 40, (name, node.name))

    def test_imports_draw_from_the_package_alone(self):
        for name, node in nodes((ast.Import, ast.ImportFrom)):
            self.assertIsInstance(node, ast.ImportFrom, name)
            self.assertEqual(node.level, 0, name)
            self.assertTrue(node.module.startswith("sealedrowsdesk."), (name, node.module))
            self.assertNotIn("*", [alias.name for alias in node.names], name)

    def test_statements_and_expressions(self):
        for name, node in nodes(ast.stmt):
            self.assertIsInstance(node, STATEMENTS, (name, node.lineno))
            if isinstance(node, ast.Assign):
                self.assertEqual(len(node.targets), 1, (name, node.lineno))
            if isinstance(node, (ast.For, ast.While)):
                self.assertEqual(node.orelse, [], (name, node.lineno))
        self.assertEqual(nodes(EXPRESSIONS_OUT), [])
        for name, node in nodes(ast.ListComp):
            self.assertEqual(len(node.generators), 1, (name, node.lineno))
            self.assertLessEqual(len(node.generators[0].ifs), 1, (name, node.lineno))
        for name, node in nodes(ast.Constant):
            self.assertIn(type(node.value), (int, str, bool, type(None)), (name, node.lineno))
        for name, node in nodes(ast.BinOp):
            if isinstance(node.op, ast.Pow):
                self.assertIsInstance(node.right, ast.Constant, (name, node.lineno))
        for name, node in nodes(ast.Compare):
            for operator, right in zip(node.ops, node.comparators):
                if isinstance(operator, (ast.Is, ast.IsNot)):
                    self.assertIsInstance(right, ast.Constant, (name, node.lineno))

    def test_functions_have_plain_parameters(self):
        for name, node in nodes((ast.FunctionDef, ast.Lambda)):
            arguments = node.args
            self.assertIsNone(arguments.vararg, name)
            self.assertIsNone(arguments.kwarg, name)
            self.assertEqual(arguments.kwonlyargs + arguments.posonlyargs, [], name)
        for name, node in nodes((ast.FunctionDef, ast.ClassDef)):
            self.assertEqual(node.decorator_list, [], (name, node.name))

    def test_names_are_plain_and_bound_once_at_the_top(self):
        for name, tree in trees():
            bound = list(bound_names(tree))
            for word in bound:
                if word not in ("__init__", "__eq__", "__repr__", "__str__", "__len__"):
                    self.assertRegex(word, r"^[A-Za-z][A-Za-z0-9_]*$", name)
                self.assertNotIn(word, PYTHON_NAMES, name)
                self.assertNotIn(word, NAMES_OUT, name)
            top = [word for node in tree.body for word in self.bound_by_statement(node)]
            self.assertEqual(sorted(set(top)), sorted(top), name)
            known = set(bound) | OWN_NAMES
            for node in ast.walk(tree):
                if isinstance(node, ast.Name):
                    self.assertIn(node.id, known, (name, node.lineno))

    def bound_by_statement(self, node):
        if isinstance(node, (ast.FunctionDef, ast.ClassDef)):
            return [node.name]
        if isinstance(node, ast.Assign):
            return [target.id for target in node.targets]
        if isinstance(node, ast.ImportFrom):
            return [alias.asname or alias.name for alias in node.names]
        return []

    def test_methods_are_those_that_are_listed(self):
        own = {node.name for name, node in nodes(ast.FunctionDef)}
        for name, node in nodes(ast.Call):
            if isinstance(node.func, ast.Attribute):
                self.assertIn(node.func.attr, METHODS | own, (name, node.lineno))
        for name, node in nodes(ast.Attribute):
            self.assertNotIn(node.attr, NAMES_OUT | {"format", "format_map"}, (name, node.lineno))

    def test_methods_and_values_of_objects_are_told_apart(self):
        methods = set()
        for name, node in nodes(ast.ClassDef):
            inner = [part.name for part in node.body if isinstance(part, ast.FunctionDef)]
            self.assertEqual(sorted(set(inner)), sorted(inner), (name, node.name))
            for part in node.body:
                self.assertIsInstance(part, (ast.FunctionDef, ast.Expr), (name, node.name))
            methods.update(inner)
        stored = {node.attr for name, node in nodes(ast.Attribute) if isinstance(node.ctx, ast.Store)}
        self.assertEqual(methods & stored, set())
        self.assertEqual((methods - METHODS - {"add", "discard", "__init__"}) & PYTHON_ATTRIBUTES, set())
        self.assertEqual(stored & PYTHON_ATTRIBUTES, set())

    def test_no_two_files_draw_from_one_another(self):
        drawn = {path.stem: set() for path in FILES}
        for name, node in nodes(ast.ImportFrom):
            drawn[name.removesuffix(".py")].add(node.module.removeprefix("sealedrowsdesk."))
        for _ in FILES:
            for stem, froms in drawn.items():
                drawn[stem] = froms.union(*[drawn[each] for each in froms])
        for stem, froms in drawn.items():
            self.assertNotIn(stem, froms)

    def test_names_of_classes_and_imports_are_not_used_for_locals(self):
        for name, tree in trees():
            kept = {node.name for node in ast.walk(tree) if isinstance(node, ast.ClassDef)}
            kept |= {alias.name for node in ast.walk(tree) if isinstance(node, ast.ImportFrom) for alias in node.names}
            for node in ast.walk(tree):
                if isinstance(node, ast.arg):
                    self.assertNotIn(node.arg, kept, name)
                if isinstance(node, ast.Name) and isinstance(node.ctx, ast.Store):
                    self.assertNotIn(node.id, kept, name)

    def test_tops_hold_plain_values(self):
        for name, tree in trees():
            for node in tree.body:
                if isinstance(node, ast.Assign):
                    inner = [type(part) for part in ast.walk(node.value)]
                    self.assertNotIn(ast.Call, inner, (name, node.lineno))
                    self.assertNotIn(ast.ListComp, inner, (name, node.lineno))
                else:
                    kinds = (ast.Expr, ast.ImportFrom, ast.FunctionDef, ast.ClassDef)
                    self.assertIsInstance(node, kinds, (name, node.lineno))


if __name__ == "__main__":
    unittest.main()

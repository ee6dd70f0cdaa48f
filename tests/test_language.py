"""The package's files keep to the part of Python that the program is written in, as far as a test can see it."""
import ast
import builtins
import pathlib
import re
import unittest

PACKAGE = pathlib.Path(__file__).resolve().parent.parent / "flagmessages"
FILES = sorted(PACKAGE.rglob("*.py"))
OWN_NAMES = set(
    "len range enumerate zip min max sum abs sorted reversed int str bool list tuple dict set frozenset isinstance "
    "ord repr any all divmod Exception ValueError TypeError KeyError IndexError LookupError ZeroDivisionError "
    "ArithmeticError OverflowError RuntimeError NotImplementedError AttributeError StopIteration".split())
METHODS = set(
    "append clear copy count endswith extend find get index insert isalnum isalpha isdigit islower isspace isupper "
    "items join keys ljust lower lstrip partition pop remove replace reverse rfind rjust rpartition rsplit rstrip "
    "setdefault split splitlines startswith strip update upper values zfill bit_length".split())
WORDS = re.compile(
    r"\b(type|typing|typing_extensions|enum|Enum|IntEnum|StrEnum|Flag|IntFlag|Generic|Protocol|ABC|ABCMeta|namedtuple"
    r"|NamedTuple|TypedDict|TYPE_CHECKING|abstractmethod)\b|dataclass|overload|contextmanager")
UNUSED = set(
    "register mro elements open input version_info with_traceback add_note attrgetter breakpoint builtins compile "
    "copyright credits delattr dir eval exec exit gc getattr globals hasattr help id importlib license locals "
    "methodcaller os quit setattr super type vars sys format format_map".split())
STATEMENTS = (
    ast.Module, ast.FunctionDef, ast.ClassDef, ast.ImportFrom, ast.Assign, ast.AugAssign, ast.If, ast.While, ast.For,
    ast.Return, ast.Break, ast.Continue, ast.Pass, ast.Raise, ast.Try, ast.Expr)
EXPRESSIONS = (
    ast.Constant, ast.List, ast.Tuple, ast.Dict, ast.Set, ast.BinOp, ast.UnaryOp, ast.BoolOp, ast.Compare, ast.IfExp,
    ast.Call, ast.Attribute, ast.Subscript, ast.Slice, ast.ListComp, ast.JoinedStr, ast.FormattedValue, ast.Name,
    ast.Lambda)
WALKED = ("zip", "enumerate", "reversed", "range")
WALKERS = ("list", "tuple", "dict", "sorted", "sum", "any", "all", "enumerate", "zip", "min", "max")


def trees():
    return [(path, ast.parse(path.read_text(encoding="utf-8"))) for path in FILES]


def nodes(sort):
    return [(path.name, node) for path, tree in trees() for node in ast.walk(tree) if isinstance(node, sort)]


class Language(unittest.TestCase):
    def test_files(self):
        self.assertTrue((PACKAGE / "__init__.py").is_file())
        for path in PACKAGE.rglob("*"):
            if "__pycache__" not in path.parts:
                self.assertRegex(path.name, r"^([a-z][a-z0-9_]*|__init__|__main__)\.py$")
                self.assertNotIn(path.stem, dir(builtins))
                self.assertFalse(path.stem.startswith("test"))

    def test_size_and_signs(self):
        for path in FILES:
            written = path.read_bytes()
            self.assertEqual(sorted(set(written) - set(range(32, 127)) - {10}), [], path.name)
            lines = written.decode().split("\n")
            self.assertLessEqual(len(lines), 400, path.name)
            self.assertLessEqual(max(map(len, lines)), 120, path.name)
            self.assertIsNone(WORDS.search(written.decode()), path.name)
        for name, node in nodes(ast.FunctionDef):
            self.assertLessEqual(node.end_lineno - node.lineno + 1, 40, (name, node.name))

    def test_statements_and_expressions(self):
        for name, node in nodes(ast.stmt):
            self.assertIsInstance(node, STATEMENTS, (name, node.lineno))
        for name, node in nodes(ast.expr):
            self.assertIsInstance(node, EXPRESSIONS, (name, node.lineno))
        for name, node in nodes((ast.For, ast.While)):
            self.assertEqual(node.orelse, [], (name, node.lineno))
        for name, node in nodes(ast.Try):
            self.assertEqual(node.finalbody, [], (name, node.lineno))
        for name, node in nodes(ast.Assign):
            self.assertEqual(len(node.targets), 1, (name, node.lineno))
        for path, tree in trees():
            for node in ast.walk(tree):
                if isinstance(node, ast.Expr) and node is not tree.body[0]:
                    self.assertIsInstance(node.value, ast.Call, (path.name, node.lineno))
        for name, node in nodes(ast.ListComp):
            self.assertEqual(len(node.generators), 1, (name, node.lineno))
            self.assertLessEqual(len(node.generators[0].ifs), 1, (name, node.lineno))
        for name, node in nodes(ast.Constant):
            self.assertIn(type(node.value), (int, str, bool, type(None)), (name, node.lineno))
        for name, node in nodes(ast.BinOp):
            self.assertNotIsInstance(node.op, (ast.Div, ast.MatMult), (name, node.lineno))

    def test_the_top_of_each_file(self):
        for path, tree in trees():
            self.assertIsInstance(tree.body[0].value, ast.Constant, path.name)
            bound = []
            for node in tree.body[1:]:
                self.assertIsInstance(node, (ast.ImportFrom, ast.Assign, ast.FunctionDef, ast.ClassDef), path.name)
                if isinstance(node, ast.Assign):
                    ast.literal_eval(node.value)
                    bound.append(node.targets[0].id)
                elif isinstance(node, ast.ImportFrom):
                    bound.extend(alias.name for alias in node.names)
                else:
                    bound.append(node.name)
            self.assertEqual(len(bound), len(set(bound)), path.name)

    def test_imports_come_from_the_file_that_defines_the_name(self):
        drawn = {}
        defined = {path.stem: {node.name for node in tree.body if hasattr(node, "name")}
                   | {node.targets[0].id for node in tree.body if isinstance(node, ast.Assign)}
                   for path, tree in trees()}
        for name, node in nodes((ast.Import, ast.ImportFrom)):
            package, dot, file = node.module.partition(".")
            self.assertEqual((package, node.level), ("flagmessages", 0), name)
            for alias in node.names:
                self.assertIn(alias.name, defined[file], name)
                self.assertIsNone(alias.asname, name)
            drawn.setdefault(name.removesuffix(".py"), set()).add(file)
        while drawn:
            free = [name for name in drawn if not drawn[name] & set(drawn)]
            self.assertTrue(free, "files that draw from one another: " + str(sorted(drawn)))
            for name in free:
                del drawn[name]

    def test_names(self):
        for name, node in nodes((ast.FunctionDef, ast.Lambda)):
            given = node.args
            self.assertFalse(given.vararg or given.kwarg or given.kwonlyargs or given.posonlyargs, name)
            self.assertEqual(getattr(node, "decorator_list", []), [], name)
        bound = [(name, node.arg) for name, node in nodes(ast.arg)]
        bound += [(name, node.id) for name, node in nodes(ast.Name) if isinstance(node.ctx, ast.Store)]
        bound += [(name, node.name) for name, node in nodes(ast.ClassDef)]
        bound += [(name, node.name) for name, node in nodes(ast.FunctionDef) if node.name != "__init__"]
        imported = {name: set() for name, node in bound}
        for name, node in nodes(ast.ImportFrom):
            imported[name] |= {alias.name for alias in node.names}
        for name, word in bound:
            self.assertRegex(word, r"^[A-Za-z][A-Za-z0-9_]*$", name)
            self.assertNotIn(word, UNUSED, name)
            self.assertNotIn(word, dir(builtins), name)
            self.assertNotIn(word, imported[name], name)
        for name, node in nodes(ast.Name):
            if node.id in dir(builtins):
                self.assertIn(node.id, OWN_NAMES, (name, node.lineno))

    def test_attributes_and_methods(self):
        methods = {node.name for name, tree in nodes(ast.ClassDef) for node in tree.body
                   if isinstance(node, ast.FunctionDef)}
        python = set().union(*(dir(sort) for sort in (str, int, list, tuple, dict, set, bytes)))
        values = {node.attr for name, node in nodes(ast.Attribute) if isinstance(node.ctx, ast.Store)}
        self.assertEqual(sorted(methods & values), [])
        self.assertEqual(sorted(values & python), [])
        for name, node in nodes(ast.Attribute):
            self.assertNotIn(node.attr, UNUSED, (name, node.lineno))
            self.assertIn(node.attr, METHODS | methods | values, (name, node.lineno))

    def test_walks_are_walked_on_the_spot(self):
        walked = {ast.dump(node.iter) for name, node in nodes((ast.For, ast.comprehension))}
        for name, node in nodes(ast.Call):
            if getattr(node.func, "id", "") in WALKERS and node.args:
                walked.add(ast.dump(node.args[0]))
        for name, node in nodes(ast.Call):
            if getattr(node.func, "id", "") in WALKED:
                self.assertIn(ast.dump(node), walked, (name, node.lineno))

    def test_sets_are_measured_or_sorted_at_once(self):
        measured = {ast.dump(node.args[0]) for name, node in nodes(ast.Call)
                    if getattr(node.func, "id", "") in ("len", "sorted")}
        for name, node in nodes(ast.Call):
            if getattr(node.func, "id", "") in ("set", "frozenset"):
                self.assertIn(ast.dump(node), measured, (name, node.lineno))

    def test_is_stands_beside_none_and_truths_alone(self):
        for name, node in nodes(ast.Compare):
            for op, right in zip(node.ops, node.comparators):
                if isinstance(op, (ast.Is, ast.IsNot)):
                    self.assertIsInstance(right, ast.Constant, (name, node.lineno))
                    self.assertIn(right.value, (None, True, False), (name, node.lineno))


if __name__ == "__main__":
    unittest.main()

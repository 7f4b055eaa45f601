"""The form of the package's files: the part of Python that the program keeps to.

The program needs less than it may use: what it does without (sets, lambdas,
annotations, keywords, f-strings, defs within defs) is refused here outright.
"""

import ast
import builtins
import pathlib
import re
import unittest

ROOT = pathlib.Path(__file__).resolve().parent.parent / "pipenet"
FILES = sorted(ROOT.rglob("*.py"))

STATEMENTS = (
    ast.Assign, ast.AugAssign, ast.If, ast.While, ast.For, ast.Return, ast.Break, ast.Continue, ast.Pass, ast.Raise,
    ast.Try, ast.Expr, ast.FunctionDef, ast.ClassDef, ast.ImportFrom,
)
EXPRESSIONS = (
    ast.Constant, ast.Name, ast.Attribute, ast.Subscript, ast.Slice, ast.Call, ast.BinOp, ast.UnaryOp, ast.BoolOp,
    ast.Compare, ast.IfExp, ast.List, ast.Tuple, ast.Dict, ast.ListComp,
)
OPERATORS = (
    ast.Add, ast.Sub, ast.Mult, ast.FloorDiv, ast.Mod, ast.BitXor, ast.BitAnd, ast.BitOr, ast.LShift, ast.RShift,
)
OWN_NAMES = set(
    "len range enumerate zip min max sum abs sorted reversed int str bool list tuple dict isinstance any all divmod "
    "Exception".split()
)
METHODS = set(
    "append clear copy count endswith extend find get index insert isalnum isalpha isdigit islower isspace isupper "
    "items join keys ljust lower lstrip partition pop remove replace reverse rfind rjust rpartition rsplit rstrip "
    "setdefault split splitlines startswith strip update upper values zfill bit_length".split()
)
WORDS_NOWHERE = set(
    "type typing typing_extensions enum Enum IntEnum StrEnum Flag IntFlag Generic Protocol ABC ABCMeta namedtuple "
    "NamedTuple TypedDict TYPE_CHECKING abstractmethod".split()
)
NAMES_NOWHERE = set(
    "register mro elements open input version_info with_traceback add_note attrgetter breakpoint builtins compile "
    "copyright credits delattr dir eval exec exit gc getattr globals hasattr help id importlib license locals "
    "methodcaller os quit setattr super type vars sys format format_map".split()
)
WALKED = {"range", "enumerate", "zip", "reversed"}
CHANGES = {"append", "clear", "extend", "insert", "pop", "remove", "reverse", "setdefault", "update"}
PYTHONS_OWN = set(dir(builtins))
OF_VALUES = set()
for value in ("", 0, [], (), {}, set(), frozenset(), b"", bytearray()):
    OF_VALUES |= {name for name in dir(value) if not name.startswith("__")}
VALUES_LIKE_PYTHONS = set("count index title find get join lower upper split strip copy add".split())
METHODS_LIKE_PYTHONS = METHODS | {"add", "discard"}
PLAIN = re.compile(r"[A-Za-z][A-Za-z0-9_]*\Z")


def trees():
    for path in FILES:
        yield path, ast.parse(path.read_text(encoding="utf-8"))


def nodes(kinds):
    for path, tree in trees():
        for node in ast.walk(tree):
            if isinstance(node, kinds):
                yield f"{path.name}:{getattr(node, 'lineno', 0)}", node


def bound_names(tree):
    """What is bound as a parameter or a local, or at the file's top."""
    for node in ast.walk(tree):
        if isinstance(node, ast.Name) and isinstance(node.ctx, ast.Store):
            yield node.id
        elif isinstance(node, ast.arg):
            yield node.arg


def top_names(tree):
    for node in tree.body:
        if isinstance(node, (ast.FunctionDef, ast.ClassDef)):
            yield node.name
        elif isinstance(node, ast.Assign):
            yield node.targets[0].id
        elif isinstance(node, ast.ImportFrom):
            for alias in node.names:
                yield alias.name


def methods_and_values():
    """The names of all classes' methods, and of the values that objects are given."""
    methods = set()
    values = set()
    for where, node in nodes(ast.ClassDef):
        methods |= {part.name for part in node.body if isinstance(part, ast.FunctionDef)}
    for where, node in nodes(ast.Attribute):
        if isinstance(node.ctx, ast.Store):
            values.add(node.attr)
    return methods, values


class Files(unittest.TestCase):
    def test_nothing_but_plain_files_of_python(self):
        found = [path for path in ROOT.rglob("*") if "__pycache__" not in path.parts]
        self.assertEqual(sorted(found), FILES)
        self.assertIn(ROOT / "__init__.py", FILES)
        self.assertIn(ROOT / "desk.py", FILES)
        for path in FILES:
            self.assertRegex(path.name, r"\A([a-z][a-z0-9_]*|__init__)\.py\Z")
            self.assertNotIn(path.stem, PYTHONS_OWN | WORDS_NOWHERE | {"test", "tests", "testing", "site"})

    def test_size_and_signs(self):
        for path in FILES:
            text = path.read_text(encoding="utf-8")
            self.assertRegex(text, r"\A[ -~\n]*\Z", path)
            self.assertLessEqual(len(text.splitlines()), 400, path)
            self.assertLessEqual(max(len(line) for line in text.splitlines()), 120, path)
        for where, node in nodes(ast.FunctionDef):
            self.assertLessEqual(node.end_lineno - node.lineno + 1, 40, where)

    def test_words_that_stand_nowhere(self):
        for path in FILES:
            text = path.read_text(encoding="utf-8")
            self.assertFalse(set(re.findall(r"\w+", text)) & WORDS_NOWHERE, path)
            self.assertNotRegex(text, "dataclass|overload|contextmanager")

    def test_imports(self):
        drawn = {}
        for path, tree in trees():
            name = "pipenet" if path.stem == "__init__" else f"pipenet.{path.stem}"
            drawn[name] = {node.module for node in ast.walk(tree) if isinstance(node, ast.ImportFrom)}
        for where, node in nodes(ast.ImportFrom):
            self.assertEqual((node.level, node.col_offset), (0, 0), where)
            defined = dict(trees())[ROOT / f"{node.module.partition('.')[2]}.py"]
            own = [part.name for part in defined.body if isinstance(part, (ast.FunctionDef, ast.ClassDef))]
            for alias in node.names:
                self.assertIn(alias.name, own, where)
                self.assertIsNone(alias.asname, where)
        while drawn:
            free = [name for name in drawn if not drawn[name] & set(drawn)]
            self.assertTrue(free, "files draw from one another")
            drawn = {name: drawn[name] for name in drawn if name not in free}


class Statements(unittest.TestCase):
    def test_the_top_of_a_file(self):
        for path, tree in trees():
            self.assertIsNotNone(ast.get_docstring(tree), path)
            for node in tree.body[1:]:
                self.assertIsInstance(node, (ast.ImportFrom, ast.FunctionDef, ast.ClassDef, ast.Assign), path)
                if isinstance(node, ast.Assign):
                    ast.literal_eval(node.value)
            names = list(top_names(tree))
            self.assertEqual(len(names), len(set(names)), path)

    def test_kinds(self):
        kinds = STATEMENTS + EXPRESSIONS
        for where, node in nodes((ast.stmt, ast.expr)):
            self.assertIsInstance(node, kinds, where)
        for where, node in nodes(ast.operator):
            self.assertIsInstance(node, OPERATORS, where)

    def test_assignments_and_loops(self):
        for where, node in nodes(ast.Assign):
            self.assertEqual(len(node.targets), 1, where)
            self.assertNotIsInstance(node.targets[0], (ast.Tuple, ast.List), where)
        for where, node in nodes((ast.For, ast.While)):
            self.assertEqual(node.orelse, [], where)
        for where, node in nodes(ast.Expr):
            is_text = isinstance(node.value, ast.Constant) and isinstance(node.value.value, str)
            self.assertTrue(is_text or isinstance(node.value, ast.Call), where)

    def test_what_a_loop_walks_is_not_changed_in_it(self):
        for where, loop in nodes(ast.For):
            walked = ast.unparse(loop.iter)
            for node in ast.walk(loop):
                if isinstance(node, ast.Call) and isinstance(node.func, ast.Attribute) and node.func.attr in CHANGES:
                    self.assertNotEqual(ast.unparse(node.func.value), walked, where)
                if isinstance(node, ast.Subscript) and isinstance(node.ctx, ast.Store):
                    self.assertNotEqual(ast.unparse(node.value), walked, where)

    def test_functions(self):
        for where, node in nodes(ast.FunctionDef):
            given = node.args
            self.assertEqual((given.posonlyargs, given.kwonlyargs, given.vararg, given.kwarg), ([], [], None, None))
            self.assertEqual((node.decorator_list, node.returns), ([], None), where)
            self.assertEqual([each.annotation for each in given.args], [None] * len(given.args), where)
            within = [part for part in ast.walk(node) if isinstance(part, (ast.FunctionDef, ast.ClassDef))]
            self.assertEqual(within, [node], where)
            if node.name == "__init__":
                self.assertFalse([part for part in ast.walk(node) if isinstance(part, ast.Return)], where)

    def test_classes(self):
        for where, node in nodes(ast.ClassDef):
            self.assertEqual((node.decorator_list, node.keywords), ([], []), where)
            self.assertIn([base.id for base in node.bases], [[], ["Exception"]], where)
            for part in node.body:
                self.assertIsInstance(part, (ast.FunctionDef, ast.Expr), where)
            names = [part.name for part in node.body if isinstance(part, ast.FunctionDef)]
            self.assertEqual(len(names), len(set(names)), where)

    def test_errors(self):
        own = {node.name for where, node in nodes(ast.ClassDef) if node.bases}
        for where, node in nodes(ast.ExceptHandler):
            self.assertIn(node.type.id, own, where)
        for where, node in nodes(ast.Try):
            self.assertEqual(node.finalbody, [], where)
        for where, node in nodes(ast.Raise):
            self.assertIn(node.exc.func.id, own, where)


class Expressions(unittest.TestCase):
    def test_values(self):
        for where, node in nodes(ast.Constant):
            self.assertIn(type(node.value), (int, str, bool, type(None)), where)
            self.assertNotIn("%", str(node.value), where)
        for where, node in nodes(ast.Compare):
            for operator, right in zip(node.ops, node.comparators):
                if isinstance(operator, (ast.Is, ast.IsNot)):
                    self.assertIn(getattr(right, "value", 0), (None, True, False), where)
        for where, node in nodes(ast.ListComp):
            self.assertEqual(len(node.generators), 1, where)
            self.assertLessEqual(len(node.generators[0].ifs), 1, where)

    def test_calls(self):
        methods = methods_and_values()[0]
        for where, node in nodes(ast.Call):
            self.assertEqual(node.keywords, [], where)
            if isinstance(node.func, ast.Attribute):
                self.assertIn(node.func.attr, METHODS | methods, where)
            else:
                self.assertIsInstance(node.func, ast.Name, where)

    def test_walked_at_once(self):
        for path, tree in trees():
            loops = [node.iter for node in ast.walk(tree) if isinstance(node, (ast.For, ast.comprehension))]
            for node in ast.walk(tree):
                if isinstance(node, ast.Call) and isinstance(node.func, ast.Name) and node.func.id in WALKED:
                    self.assertIn(node, loops, f"{path.name}:{node.lineno}")

    def test_pythons_own_names(self):
        for path, tree in trees():
            known = set(bound_names(tree)) | set(top_names(tree)) | OWN_NAMES
            for node in ast.walk(tree):
                if isinstance(node, ast.Name):
                    self.assertIn(node.id, known, f"{path.name}:{node.lineno}")


class Names(unittest.TestCase):
    def test_plain_words_that_mean_nothing_else(self):
        for path, tree in trees():
            taken = set(top_names(tree))
            constants = {node.targets[0].id for node in tree.body if isinstance(node, ast.Assign)}
            for name in bound_names(tree):
                self.assertRegex(name, PLAIN, path)
                self.assertNotIn(name, PYTHONS_OWN | NAMES_NOWHERE | (taken - constants), path)
            for name in taken:
                self.assertRegex(name, PLAIN, path)
                self.assertNotIn(name, PYTHONS_OWN | NAMES_NOWHERE, path)

    def test_methods_and_values(self):
        methods, values = methods_and_values()
        self.assertFalse(methods & values)
        for name in methods - {"__init__"}:
            self.assertRegex(name, PLAIN)
            self.assertNotIn(name, NAMES_NOWHERE | (OF_VALUES - METHODS_LIKE_PYTHONS))
        for name in values:
            self.assertRegex(name, PLAIN)
            self.assertNotIn(name, NAMES_NOWHERE | (OF_VALUES - VALUES_LIKE_PYTHONS))

    def test_a_files_lists_and_dicts_are_only_read(self):
        for path, tree in trees():
            kept = [node.targets[0].id for node in tree.body
                    if isinstance(node, ast.Assign) and isinstance(node.value, (ast.List, ast.Dict))]
            read = [node.value for node in ast.walk(tree)
                    if isinstance(node, ast.Subscript) and isinstance(node.ctx, ast.Load)]
            for node in ast.walk(tree):
                if isinstance(node, ast.Name) and isinstance(node.ctx, ast.Load) and node.id in kept:
                    self.assertIn(node, read, f"{path.name}:{node.lineno}")

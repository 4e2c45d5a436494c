"""The rules of the language subset that can be seen in the source."""

import ast
import builtins
import pathlib
import re
import unittest
import warnings

import thirtybits

FOLDER = pathlib.Path(thirtybits.__file__).parent
BUILTINS = set(
    "len range enumerate zip min max sum abs sorted reversed int str bool list tuple dict set isinstance ord repr any all "
    "divmod Exception ValueError TypeError KeyError IndexError LookupError ZeroDivisionError ArithmeticError "
    "OverflowError RuntimeError NotImplementedError".split()
)
METHODS = set(
    "append clear copy count endswith extend find get index insert isalnum isalpha isdigit islower isspace isupper items "
    "join keys ljust lower lstrip partition pop remove replace reverse rfind rjust rpartition rsplit rstrip setdefault "
    "split splitlines startswith strip update upper values zfill bit_length".split()
)
UNUSED_WORDS = (
    "type typing typing_extensions enum Enum IntEnum StrEnum Flag IntFlag Generic Protocol ABC ABCMeta namedtuple "
    "NamedTuple TypedDict TYPE_CHECKING abstractmethod"
).split()
UNUSED_NAMES = set(
    "register mro elements open input law version_info with_traceback add_note attrgetter breakpoint builtins compile "
    "copyright credits delattr dir eval exec exit gc getattr globals hasattr help id importlib license locals "
    "methodcaller os quit setattr super type vars sys".split()
)
STATEMENTS = (
    ast.FunctionDef, ast.ClassDef, ast.Return, ast.Delete, ast.Assign, ast.AugAssign, ast.For, ast.While, ast.If, ast.Raise,
    ast.Try, ast.Assert, ast.ImportFrom, ast.Expr, ast.Pass, ast.Break, ast.Continue,
)


def files():
    return {path.stem: path.read_text(encoding="utf-8") for path in sorted(FOLDER.glob("*.py"))}


def trees():
    return {name: ast.parse(text) for name, text in files().items()}


def nodes(kind):
    """All nodes of a kind, each with the name of its file."""
    return [(name, node) for name, tree in trees().items() for node in ast.walk(tree) if isinstance(node, kind)]


def bound_names(tree):
    """The functions, classes, imports and values that a file binds at module level."""
    found = []
    for node in tree.body:
        if isinstance(node, (ast.FunctionDef, ast.ClassDef)):
            found.append(node.name)
        elif isinstance(node, ast.ImportFrom):
            found += [alias.name for alias in node.names]
        elif isinstance(node, ast.Assign):
            found += [target.id for target in node.targets]
    return found


def local_names(function):
    """Parameters and variables of a function."""
    found = [argument.arg for argument in ast.walk(function) if isinstance(argument, ast.arg)]
    return found + [node.id for node in ast.walk(function) if isinstance(node, ast.Name) and isinstance(node.ctx, ast.Store)]


class Files(unittest.TestCase):
    def test_the_folder(self):
        for path in FOLDER.iterdir():
            self.assertTrue(path.name == "__pycache__" or re.fullmatch(r"[a-z0-9]+\.py|__init__\.py", path.name), path)

    def test_sizes_and_characters(self):
        for name, text in files().items():
            rows = text.split("\n")
            self.assertLessEqual(len(rows), 400, name)
            self.assertLessEqual(max(map(len, rows)), 120, name)
            self.assertEqual(set(re.findall(r"[^\n -~]", text)), set(), name)
            for word in re.findall(r"\w+", text):
                self.assertNotIn(word, UNUSED_WORDS, name)

    def test_python_gives_no_warning(self):
        with warnings.catch_warnings():
            warnings.simplefilter("error")
            for name, text in files().items():
                compile(text, name, "exec")

    def test_functions(self):
        for name, node in nodes(ast.FunctionDef):
            self.assertLessEqual(node.end_lineno - node.lineno + 1, 40, (name, node.name))
            self.assertIsNotNone(ast.get_docstring(node) or node.name.startswith("__") or None, (name, node.name))

    def test_imports(self):
        before = {}
        for name, tree in trees().items():
            before[name] = set()
            for node in ast.walk(tree):
                if isinstance(node, ast.ImportFrom):
                    folder, _, file = node.module.partition(".")
                    self.assertEqual((folder, node.level), ("thirtybits", 0), name)
                    defined = [part.name for part in trees()[file].body if isinstance(part, (ast.FunctionDef, ast.ClassDef))]
                    defined += [part.targets[0].id for part in trees()[file].body if isinstance(part, ast.Assign)]
                    for alias in node.names:
                        self.assertIn(alias.name, defined, name)
                        self.assertIsNone(alias.asname, name)
                    before[name].add(file)
        while before:
            free = [name for name, needed in before.items() if not needed & set(before)]
            self.assertTrue(free, f"these import from each other: {sorted(before)}")
            for name in free:
                del before[name]

    def test_imports_are_used(self):
        for name, tree in trees().items():
            used = {node.id for node in ast.walk(tree) if isinstance(node, ast.Name)}
            for node in tree.body:
                if isinstance(node, ast.ImportFrom):
                    self.assertLessEqual({alias.name for alias in node.names}, used, name)


class Names(unittest.TestCase):
    def test_each_name_is_bound_once(self):
        for name, tree in trees().items():
            bound = bound_names(tree)
            self.assertEqual(len(bound), len(set(bound)), name)
            hidden = {part for part in bound if part in dir(builtins) or part in UNUSED_NAMES}
            self.assertEqual(hidden, set(), name)

    def test_local_names(self):
        every = set(dir(builtins)) | UNUSED_NAMES
        for name, tree in trees().items():
            fixed = {alias.name for node in tree.body if isinstance(node, ast.ImportFrom) for alias in node.names}
            fixed |= {node.name for node in tree.body if isinstance(node, (ast.ClassDef, ast.FunctionDef))}
            for node in ast.walk(tree):
                if isinstance(node, ast.FunctionDef):
                    self.assertEqual(set(local_names(node)) & (every | fixed), set(), (name, node.name))
                    self.assertFalse([local for local in local_names(node) if local.startswith("_")], name)

    def test_methods_and_attributes_differ(self):
        methods = [part.name for name, node in nodes(ast.ClassDef) for part in node.body if isinstance(part, ast.FunctionDef)]
        stored = {node.attr for name, node in nodes(ast.Attribute) if isinstance(node.ctx, ast.Store)}
        read = {node.attr for name, node in nodes(ast.Attribute)}
        self.assertEqual(stored & set(methods), set())
        self.assertLessEqual(read, stored | set(methods) | METHODS | {"__init__"})


class Statements(unittest.TestCase):
    def test_kinds(self):
        for name, node in nodes(ast.stmt):
            self.assertIsInstance(node, STATEMENTS, (name, node.lineno))

    def test_builtins(self):
        every = set(dir(builtins))
        for name, node in nodes(ast.Name):
            if node.id in every:
                self.assertIn(node.id, BUILTINS, (name, node.lineno))

    def test_no_floats_and_no_true_division(self):
        for name, node in nodes((ast.Div, ast.MatMult, ast.Lambda, ast.GeneratorExp, ast.Yield, ast.Set, ast.SetComp)):
            self.fail((name, node))
        for name, node in nodes(ast.Constant):
            self.assertNotIsInstance(node.value, (float, complex), name)
            self.assertNotIn("%", str(node.value), (name, node.lineno))

    def test_powers_have_literal_exponents(self):
        for name, node in nodes(ast.BinOp):
            if isinstance(node.op, ast.Pow):
                self.assertIsInstance(node.right, ast.Constant, (name, node.lineno))
                self.assertIn(node.right.value, range(65), (name, node.lineno))

    def test_is_stands_beside_plain_values(self):
        for name, node in nodes(ast.Compare):
            for sign, right in zip(node.ops, node.comparators):
                if isinstance(sign, (ast.Is, ast.IsNot)):
                    self.assertTrue(isinstance(right, ast.Constant) and right.value in (None, True, False), name)

    def test_errors_are_made_on_the_spot(self):
        for name, node in nodes(ast.Raise):
            self.assertTrue(node.exc is None or isinstance(node.exc, ast.Call), (name, node.lineno))

    def test_no_decorators_and_no_annotations(self):
        for name, node in nodes(ast.FunctionDef):
            self.assertEqual((node.decorator_list, node.returns), ([], None), (name, node.name))
            self.assertFalse([part for part in ast.walk(node.args) if isinstance(part, ast.arg) and part.annotation])

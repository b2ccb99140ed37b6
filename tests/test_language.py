"""Those rules of the language that can be seen in the files of the package without running them."""

import ast
import builtins
import keyword
import pathlib
import re
import unittest

PACKAGE = pathlib.Path(__file__).resolve().parent.parent / "whomay"

ALLOWED_BUILTINS = set(
    "len range enumerate zip min max sum abs sorted reversed int str bool bytes list tuple dict set frozenset"
    " isinstance ord repr any all divmod iter next super Exception ValueError TypeError KeyError IndexError LookupError"
    " ZeroDivisionError ArithmeticError OverflowError RuntimeError NotImplementedError AttributeError"
    " StopIteration NotImplemented".split()
)
BUILTIN_METHODS = set(
    "append clear copy count endswith extend find get index insert isalnum isalpha isdigit islower isspace"
    " isupper items join keys ljust lower lstrip partition pop remove replace reverse rfind rjust rpartition"
    " rsplit rstrip setdefault split splitlines startswith strip update upper values zfill bit_length"
    " add discard".split()
)
BARRED_WORDS = (
    r"\b(type|typing|typing_extensions|enum|Enum|IntEnum|StrEnum|Flag|IntFlag|Generic|Protocol|ABC|ABCMeta"
    r"|namedtuple|NamedTuple|TypedDict|TYPE_CHECKING|abstractmethod)\b|dataclass|overload|contextmanager"
)
BARRED_NAMES = set(
    "register mro elements open input law version_info with_traceback add_note format format_map".split()
)
CHANGING = {"append", "clear", "extend", "insert", "pop", "remove", "reverse", "setdefault", "update"}
LISTS_ONLY = {"any", "all", "min", "max", "sum", "sorted"}
BARRED_NODES = (ast.Global, ast.AsyncFunctionDef, ast.AsyncFor, ast.Await, ast.Import, ast.Div)


def files():
    return sorted(PACKAGE.rglob("*.py"))


def parsed(path):
    return ast.parse(path.read_text(encoding="utf-8"))


def parsed_files():
    return [(path, parsed(path)) for path in files()]


def functions(tree):
    return [node for node in ast.walk(tree) if isinstance(node, ast.FunctionDef)]


def parameters(function):
    parts = function.args
    row = [*parts.posonlyargs, *parts.args, *parts.kwonlyargs, parts.vararg, parts.kwarg]
    return [part.arg for part in row if part is not None]


def assigned(tree):
    """The names that are parameters, targets or caught errors anywhere below."""
    names = [name for function in functions(tree) for name in parameters(function)]
    names.extend(node.name for node in ast.walk(tree) if isinstance(node, ast.ExceptHandler) and node.name)
    names.extend(node.id for node in ast.walk(tree) if isinstance(node, ast.Name) and isinstance(node.ctx, ast.Store))
    return names


def bound_at_module_level(tree):
    names = []
    for node in tree.body:
        if isinstance(node, (ast.FunctionDef, ast.ClassDef)):
            names.append(node.name)
        elif isinstance(node, ast.ImportFrom):
            names.extend(part.asname or part.name for part in node.names)
        elif isinstance(node, ast.Assign):
            names.extend(target.id for target in node.targets)
    return names


def changed_in(loop):
    """The names and attributes that the loop goes through and changes."""
    gone_through = {ast.unparse(node) for node in ast.walk(loop.iter) if isinstance(node, (ast.Name, ast.Attribute))}
    changed = set()
    for part in loop.body:
        for node in ast.walk(part):
            if isinstance(node, ast.Call) and isinstance(node.func, ast.Attribute) and node.func.attr in CHANGING:
                changed.add(ast.unparse(node.func.value))
            if isinstance(node, ast.Subscript) and not isinstance(node.ctx, ast.Load):
                changed.add(ast.unparse(node.value))
            if isinstance(node, ast.AugAssign):
                changed.add(ast.unparse(node.target))
    return gone_through & changed


class Language(unittest.TestCase):
    def test_the_folder_has_plain_files_alone(self):
        for path in PACKAGE.rglob("*"):
            if "__pycache__" not in path.parts:
                self.assertRegex(path.name, r"^(__init__|[a-z][a-z0-9_]*)\.py$")

    def test_sizes_and_characters(self):
        for path, tree in parsed_files():
            text = path.read_text(encoding="utf-8")
            self.assertRegex(text, r"^[ -~\n]*$")
            self.assertLessEqual(len(text.splitlines()), 399)
            self.assertLessEqual(max(len(line) for line in text.splitlines()), 120)
            self.assertIsNone(re.search(BARRED_WORDS, text))
            for function in functions(tree):
                self.assertLessEqual(function.end_lineno - function.lineno + 1, 40)

    def test_imports_name_the_file_that_defines(self):
        trees = {"whomay." + path.stem: parsed(path) for path in files()}
        above = {}
        for name, tree in trees.items():
            rows = [node for node in tree.body if isinstance(node, ast.ImportFrom)]
            above[name] = [node.module for node in rows]
            for node in rows:
                self.assertEqual(node.level, 0)
                defined = [part.name for part in trees[node.module].body if hasattr(part, "name")]
                for part in node.names:
                    self.assertIn(part.name, defined)
        left = dict(above)
        while left:
            free = [name for name in left if not any(other in left for other in left[name])]
            self.assertTrue(free, "files that import from each other: " + str(sorted(left)))
            for name in free:
                del left[name]

    def test_module_level(self):
        allowed = (ast.FunctionDef, ast.ClassDef, ast.ImportFrom, ast.Assign)
        for path, tree in parsed_files():
            names = bound_at_module_level(tree)
            self.assertEqual(len(names), len(set(names)))
            for at, node in enumerate(tree.body):
                docstring = at == 0 and isinstance(node, ast.Expr) and isinstance(node.value, ast.Constant)
                self.assertTrue(docstring or isinstance(node, allowed), ast.dump(node))

    def test_names(self):
        for path, tree in parsed_files():
            kept = {node.name for node in tree.body if isinstance(node, ast.ClassDef)}
            kept.update(part.name for node in tree.body if isinstance(node, ast.ImportFrom) for part in node.names)
            for name in assigned(tree):
                self.assertFalse(name.startswith("_") or hasattr(builtins, name) or keyword.iskeyword(name), name)
                self.assertNotIn(name, kept)
                self.assertNotIn(name, BARRED_NAMES)
            for node in ast.walk(tree):
                if isinstance(node, ast.Attribute):
                    self.assertTrue(node.attr == "__init__" or not node.attr.startswith("_"), node.attr)
                    self.assertNotIn(node.attr, BARRED_NAMES)

    def test_builtins(self):
        for path, tree in parsed_files():
            known = set(bound_at_module_level(tree)) | set(assigned(tree)) | ALLOWED_BUILTINS
            known.update(function.name for function in functions(tree))
            for node in ast.walk(tree):
                if isinstance(node, ast.Name) and isinstance(node.ctx, ast.Load):
                    self.assertIn(node.id, known)

    def test_methods_and_attributes(self):
        methods, stored, called, read = set(), set(), set(), set()
        for path, tree in parsed_files():
            for node in ast.walk(tree):
                if isinstance(node, ast.ClassDef):
                    methods.update(part.name for part in node.body if isinstance(part, ast.FunctionDef))
                elif isinstance(node, ast.Attribute) and isinstance(node.ctx, ast.Store):
                    stored.add(node.attr)
                elif isinstance(node, ast.Attribute):
                    read.add(node.attr)
                elif isinstance(node, ast.Call) and isinstance(node.func, ast.Attribute):
                    called.add(node.func.attr)
        self.assertEqual(methods & stored, set())
        self.assertEqual(called - methods - BUILTIN_METHODS, set())
        self.assertEqual(read - methods - BUILTIN_METHODS - stored, set())

    def test_statements_and_expressions(self):
        for path, tree in parsed_files():
            for node in ast.walk(tree):
                self.assertNotIsInstance(node, BARRED_NODES)
                if isinstance(node, ast.Compare) and any(isinstance(sign, (ast.Is, ast.IsNot)) for sign in node.ops):
                    self.assertIn(node.comparators[0].value, (None, True, False))
                if isinstance(node, ast.Constant):
                    self.assertNotIsInstance(node.value, float)
                    self.assertNotIn("%", str(node.value))
                if isinstance(node, ast.Call) and isinstance(node.func, ast.Name) and node.func.id in LISTS_ONLY:
                    self.assertFalse(any(isinstance(part, ast.GeneratorExp) for part in node.args))

    def test_stars_loops_and_handlers(self):
        own_errors = {node.name for node in ast.walk(parsed(PACKAGE / "errors.py")) if isinstance(node, ast.ClassDef)}
        for path, tree in parsed_files():
            for node in ast.walk(tree):
                if isinstance(node, ast.Call):
                    for part in node.args:
                        plain = isinstance(getattr(part, "value", None), (ast.Name, ast.Attribute))
                        self.assertTrue(plain or not isinstance(part, ast.Starred), ast.dump(node))
                if isinstance(node, ast.ExceptHandler):
                    self.assertIn(node.type.id, own_errors)
                if isinstance(node, ast.For):
                    self.assertFalse(changed_in(node), ast.unparse(node))
                self.assertNotIsInstance(node, (ast.GeneratorExp, ast.Lambda, ast.With, ast.NamedExpr))

    def test_special_methods(self):
        allowed = {"__init__", "__eq__", "__repr__", "__str__", "__len__"}
        for path, tree in parsed_files():
            for function in functions(tree):
                if function.name.startswith("_"):
                    self.assertIn(function.name, allowed)
                self.assertEqual(function.decorator_list, [])
                if function.name in ("__eq__", "__repr__", "__str__", "__len__"):
                    self.assertIsInstance(function.body[-1], ast.Return)
                    self.assertFalse([name for name in ast.walk(function) if isinstance(name, ast.Assign)])


if __name__ == "__main__":
    unittest.main()

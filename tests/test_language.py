"""The rules of the language that a look at the files can show; the rest is for the reader."""

import ast
import builtins
import pathlib
import re
import unittest

PACKAGE = pathlib.Path(__file__).resolve().parent.parent / "crestkeys"
FILES = sorted(PACKAGE.glob("*.py"))
BUILTINS = set(
    "len range enumerate zip min max sum abs sorted reversed int str bool bytes list tuple dict set frozenset "
    "isinstance ord repr any all divmod Exception ValueError TypeError KeyError IndexError LookupError "
    "ZeroDivisionError ArithmeticError OverflowError RuntimeError NotImplementedError AttributeError "
    "StopIteration NotImplemented".split())
BARRED_WORDS = set(
    "type typing typing_extensions enum Enum IntEnum StrEnum Flag IntFlag Generic Protocol ABC ABCMeta "
    "namedtuple NamedTuple TypedDict TYPE_CHECKING abstractmethod".split())
BARRED_NAMES = set(
    "register mro elements open input version_info with_traceback add_note attrgetter breakpoint builtins compile "
    "copyright credits delattr dir eval exec exit gc getattr globals hasattr help id importlib license locals "
    "methodcaller os quit setattr super type vars sys".split())
DOUBLE = {"__init__"}
BARRED_NODES = (ast.Global, ast.AsyncFunctionDef, ast.AsyncFor, ast.AsyncWith, ast.Await, ast.Import, ast.Div)
FUNCTIONS = (ast.FunctionDef, ast.Lambda)
PASSING = {"zip", "enumerate", "reversed", "range", "items", "keys", "values"}
GOING_THROUGH = {"list", "tuple", "dict", "sorted", "sum", "any", "all", "enumerate", "zip", "bytes", "min", "max"}


def read(path):
    text = path.read_text(encoding="utf-8")
    return text, ast.parse(text)


def module_names(tree):
    found = []
    for node in tree.body:
        if isinstance(node, (ast.FunctionDef, ast.ClassDef)):
            found.append(node.name)
        elif isinstance(node, ast.ImportFrom):
            found += [alias.asname or alias.name for alias in node.names]
        elif isinstance(node, ast.Assign):
            found += [target.id for target in node.targets]
    return found


def bound_in(function):
    args = function.args
    found = [arg.arg for arg in args.args + args.kwonlyargs + [args.vararg, args.kwarg] if arg]
    for node in ast.walk(function):
        if isinstance(node, ast.Name) and isinstance(node.ctx, ast.Store):
            found.append(node.id)
        elif isinstance(node, ast.ExceptHandler) and node.name:
            found.append(node.name)
        elif isinstance(node, ast.FunctionDef) and node is not function:
            found.append(node.name)
    return found


class Language(unittest.TestCase):
    def test_the_folder_has_plain_files_only(self):
        names = [path.name for path in PACKAGE.iterdir() if path.name != "__pycache__"]
        for name in names:
            self.assertTrue(name == "__init__.py" or re.fullmatch(r"[a-z][a-z0-9_]*\.py", name), name)
        self.assertIn("__init__.py", names)

    def test_characters_and_sizes(self):
        for path in FILES:
            text, tree = read(path)
            self.assertFalse(set(text) - {chr(code) for code in range(32, 127)} - {"\n"}, path.name)
            rows = text.split("\n")
            self.assertLessEqual(len(rows), 400, path.name)
            self.assertLessEqual(max(map(len, rows)), 120, path.name)
            for node in ast.walk(tree):
                if isinstance(node, ast.FunctionDef):
                    self.assertLessEqual(node.end_lineno - node.lineno + 1, 40, node.name)

    def test_barred_words(self):
        for path in FILES:
            words = set(re.findall(r"[A-Za-z_0-9]+", read(path)[0]))
            self.assertFalse(words & BARRED_WORDS, path.name)
            self.assertNotIn("%", "".join(re.findall(r'"[^"\n]*"', read(path)[0])), path.name)

    def test_modules_hold_only_what_they_may(self):
        for path in FILES:
            tree = read(path)[1]
            for node in tree.body:
                self.assertIsInstance(node, (ast.Expr, ast.ImportFrom, ast.FunctionDef, ast.ClassDef, ast.Assign))
                if isinstance(node, ast.Expr):
                    self.assertIsInstance(node.value, ast.Constant)
            names = module_names(tree)
            self.assertEqual(len(names), len(set(names)), path.name)

    def test_imports(self):
        above = {}
        for path in FILES:
            above[path.stem] = set()
            for node in ast.walk(read(path)[1]):
                if not isinstance(node, ast.ImportFrom):
                    continue
                self.assertEqual(node.level, 0)
                package, _, name = node.module.partition(".")
                self.assertEqual(package, "crestkeys")
                defined = [row for row in read(PACKAGE / (name + ".py"))[1].body if not isinstance(row, ast.ImportFrom)]
                defined = module_names(ast.Module(defined, []))
                self.assertFalse({alias.name for alias in node.names} - set(defined), path.name)
                above[path.stem].add(name)
        while above:
            free = [name for name in above if not above[name] & set(above)]
            self.assertTrue(free, f"these import from each other: {sorted(above)}")
            for name in free:
                del above[name]

    def test_names(self):
        for path in FILES:
            for node in ast.walk(read(path)[1]):
                for field in ("name", "id", "attr", "arg"):
                    name = getattr(node, field, None)
                    if isinstance(name, str):
                        self.assertTrue(re.fullmatch("[A-Za-z][A-Za-z0-9_]*", name) or name in DOUBLE, name)
                        self.assertNotIn(name, BARRED_NAMES, path.name)

    def test_builtins(self):
        for path in FILES:
            for node in ast.walk(read(path)[1]):
                if isinstance(node, ast.Name) and hasattr(builtins, node.id):
                    self.assertIn(node.id, BUILTINS, path.name)

    def test_names_in_functions_hide_nothing(self):
        for path in FILES:
            tree = read(path)[1]
            taken = set(module_names(tree)) | set(dir(builtins))
            for node in ast.walk(tree):
                if isinstance(node, FUNCTIONS):
                    self.assertFalse(set(bound_in(node)) & taken, f"{path.name}: {set(bound_in(node)) & taken}")

    def test_what_passes_is_gone_through_at_once(self):
        for path in FILES:
            tree = read(path)[1]
            at_once = [node.iter for node in ast.walk(tree) if isinstance(node, (ast.For, ast.comprehension))]
            for node in ast.walk(tree):
                if isinstance(node, ast.Call) and isinstance(node.func, ast.Name) and node.func.id in GOING_THROUGH:
                    at_once += node.args
            for node in ast.walk(tree):
                if isinstance(node, ast.Call):
                    name = getattr(node.func, "id", getattr(node.func, "attr", None))
                    self.assertFalse(name in PASSING and node not in at_once, f"{path.name}: {node.lineno}")

    def test_statements_and_expressions(self):
        for path in FILES:
            for node in ast.walk(read(path)[1]):
                self.assertNotIsInstance(node, BARRED_NODES, path.name)
                if isinstance(node, ast.Constant):
                    self.assertNotIsInstance(node.value, (float, complex), path.name)
                if isinstance(node, ast.Compare):
                    for sign, side in zip(node.ops, node.comparators):
                        if isinstance(sign, (ast.Is, ast.IsNot)):
                            self.assertIn(getattr(side, "value", 0), (None, True, False), path.name)
                if isinstance(node, ast.Raise):
                    self.assertIsInstance(node.exc, ast.Call, path.name)


if __name__ == "__main__":
    unittest.main()

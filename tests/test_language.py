"""The package keeps to the rules of LANGUAGE.md, as far as they can be seen here."""

import ast
import builtins
import pathlib
import re
import unittest

PACKAGE = pathlib.Path(__file__).resolve().parent.parent / "longwork"
FILES = sorted(path for path in PACKAGE.iterdir() if path.name != "__pycache__")

ALLOWED_BUILTINS = set("""
    len range enumerate zip min max sum abs sorted reversed int str bool bytes list tuple dict set frozenset
    isinstance ord repr any all divmod Exception ValueError TypeError KeyError IndexError LookupError
    ZeroDivisionError ArithmeticError OverflowError RuntimeError NotImplementedError AttributeError
    StopIteration NotImplemented
""".split())
BARRED_WORDS = re.compile(
    r"\b(type|typing|typing_extensions|enum|Enum|IntEnum|StrEnum|Flag|IntFlag|Generic|Protocol|ABC|ABCMeta"
    r"|namedtuple|NamedTuple|TypedDict|TYPE_CHECKING|abstractmethod)\b|dataclass|overload|contextmanager")
BARRED_NAMES = set("""
    register mro elements open input version_info with_traceback add_note attrgetter breakpoint builtins compile
    copyright credits delattr dir eval exec exit gc getattr globals hasattr help id importlib license locals
    methodcaller os quit setattr super type vars sys
""".split())
# The last six are allowed in some places only, and the package does without them.
BARRED_NODES = (ast.Global, ast.AsyncFunctionDef, ast.AsyncFor, ast.AsyncWith, ast.Await, ast.Import, ast.Div,
                ast.NamedExpr, ast.Set, ast.SetComp, ast.GeneratorExp, ast.Yield, ast.YieldFrom)
BARRED_ATTRIBUTES = set("""
    items keys values pop update append clear extend insert remove reverse setdefault sort args encode decode hex
    fromhex format real imag numerator denominator
""".split())
BUILTIN_METHODS = set("""
    append clear copy count endswith extend find get index insert isalnum isalpha isdigit islower isspace isupper items
    join keys ljust lower lstrip partition pop remove replace reverse rfind rjust rpartition rsplit rstrip setdefault
    split splitlines startswith strip update upper values zfill bit_length title capitalize swapcase casefold center
    expandtabs removeprefix removesuffix rindex isascii isdecimal isnumeric istitle isidentifier isprintable __init__
""".split())


def trees():
    return [(path, ast.parse(path.read_text("ascii"))) for path in FILES]


def functions(tree):
    return [node for node in ast.walk(tree) if isinstance(node, (ast.FunctionDef, ast.Lambda))]


def bound_names(tree):
    found = [node.id for node in ast.walk(tree) if isinstance(node, ast.Name) and isinstance(node.ctx, ast.Store)]
    found += [node.arg for node in ast.walk(tree) if isinstance(node, ast.arg)]
    found += [node.name for node in ast.walk(tree) if isinstance(node, ast.ClassDef)]
    found += [node.name for node in tree.body if isinstance(node, ast.FunctionDef)]
    return found


def methods(tree):
    classes = [node for node in ast.walk(tree) if isinstance(node, ast.ClassDef)]
    return [node.name for one in classes for node in one.body if isinstance(node, ast.FunctionDef)]


def assigned_attributes(tree):
    return [node.attr for node in ast.walk(tree) if isinstance(node, ast.Attribute) and isinstance(node.ctx, ast.Store)]


class Files(unittest.TestCase):
    def test_only_python_files_with_plain_names(self):
        self.assertIn("__init__.py", [path.name for path in FILES])
        for path in FILES:
            self.assertRegex(path.name, r"^([a-z][a-z0-9_]*|__init__|__main__)\.py$")

    def test_characters_and_lengths(self):
        for path in FILES:
            text = path.read_text("ascii")
            self.assertRegex(text, r"\A[ -~\n]*\Z", path.name)
            self.assertLessEqual(len(text.splitlines()), 400, path.name)
            for line in text.splitlines():
                self.assertLessEqual(len(line), 120, f"{path.name}: {line}")

    def test_barred_words(self):
        for path in FILES:
            self.assertIsNone(BARRED_WORDS.search(path.read_text("ascii")), path.name)

    def test_functions_are_short(self):
        for path, tree in trees():
            for node in functions(tree):
                self.assertLessEqual(node.end_lineno - node.lineno + 1, 40, f"{path.name}: {node.lineno}")


class Code(unittest.TestCase):
    def test_module_level(self):
        allowed = (ast.ImportFrom, ast.FunctionDef, ast.ClassDef, ast.Assign)
        for path, tree in trees():
            for at, node in enumerate(tree.body):
                docstring = at == 0 and isinstance(node, ast.Expr) and isinstance(node.value, ast.Constant)
                self.assertTrue(docstring or isinstance(node, allowed), f"{path.name}: {node.lineno}")

    def test_imports(self):
        names = [path.stem for path in FILES]
        for path, tree in trees():
            for node in ast.walk(tree):
                if isinstance(node, ast.ImportFrom):
                    self.assertEqual(node.level, 0)
                    self.assertIn(node.module, ["longwork." + name for name in names], path.name)
                    self.assertNotIn("*", [one.name for one in node.names])

    def test_barred_nodes(self):
        for path, tree in trees():
            for node in ast.walk(tree):
                where = f"{path.name}: {getattr(node, 'lineno', '')}"
                self.assertNotIsInstance(node, BARRED_NODES, where)
                if isinstance(node, ast.Constant):
                    self.assertNotIsInstance(node.value, (float, complex), where)
                    self.assertFalse(isinstance(node.value, str) and chr(37) in node.value, where)

    def test_is_only_beside_none_true_and_false(self):
        for path, tree in trees():
            for node in ast.walk(tree):
                if isinstance(node, ast.Compare):
                    for sign, right in zip(node.ops, node.comparators):
                        if isinstance(sign, (ast.Is, ast.IsNot)):
                            self.assertIn(right.value, (None, True, False), f"{path.name}: {node.lineno}")

    def test_builtins(self):
        for path, tree in trees():
            bound = bound_names(tree)
            for node in ast.walk(tree):
                if isinstance(node, ast.Name) and node.id not in bound and hasattr(builtins, node.id):
                    self.assertIn(node.id, ALLOWED_BUILTINS, f"{path.name}: {node.lineno}")

    def test_names(self):
        for path, tree in trees():
            top = [one.name for node in tree.body if isinstance(node, ast.ImportFrom) for one in node.names]
            top += [node.name for node in tree.body if isinstance(node, (ast.FunctionDef, ast.ClassDef))]
            top += [target.id for node in tree.body if isinstance(node, ast.Assign) for target in node.targets]
            self.assertEqual(len(top), len(set(top)), path.name)
            for name in bound_names(tree):
                self.assertFalse(name.startswith("_") or name in BARRED_NAMES or hasattr(builtins, name),
                                 f"{path.name}: {name}")

    def test_methods_and_attributes(self):
        own_methods = {name for path, tree in trees() for name in methods(tree)}
        attributes = {name for path, tree in trees() for name in assigned_attributes(tree)}
        self.assertEqual(own_methods & attributes, set())
        self.assertEqual(attributes & BARRED_ATTRIBUTES, set())
        known = own_methods | attributes | BUILTIN_METHODS
        for path, tree in trees():
            for node in ast.walk(tree):
                if isinstance(node, ast.Attribute):
                    self.assertIn(node.attr, known, f"{path.name}: {node.lineno}")

    def test_names_of_imports_and_classes_mean_nothing_else(self):
        for path, tree in trees():
            imports = [one.name for node in tree.body if isinstance(node, ast.ImportFrom) for one in node.names]
            classes = [node.name for node in tree.body if isinstance(node, ast.ClassDef)]
            taken = {node.id for node in ast.walk(tree) if isinstance(node, ast.Name) and isinstance(node.ctx, ast.Store)}
            taken |= {node.arg for node in ast.walk(tree) if isinstance(node, ast.arg)}
            self.assertEqual(taken & {*imports, *classes}, set(), path.name)

    def test_no_two_files_import_from_each_other(self):
        imports = {path.stem: [node.module.split(".")[1] for node in tree.body if isinstance(node, ast.ImportFrom)]
                   for path, tree in trees()}
        for first in imports:
            reached, ahead = set(), list(imports[first])
            while ahead:
                name = ahead.pop()
                if name not in reached:
                    reached.add(name)
                    ahead += imports[name]
            self.assertNotIn(first, reached)

    def test_each_name_is_imported_from_the_file_that_defines_it(self):
        defined = {f"longwork.{path.stem}": [node.name for node in tree.body if hasattr(node, "name")]
                   + [node.targets[0].id for node in tree.body if isinstance(node, ast.Assign)]
                   for path, tree in trees()}
        for path, tree in trees():
            for node in tree.body:
                if isinstance(node, ast.ImportFrom):
                    for one in node.names:
                        self.assertIn(one.name, defined[node.module], path.name)
                        self.assertIsNone(one.asname)

    def test_tables_hold_no_lists_and_no_dicts(self):
        for path, tree in trees():
            for node in tree.body:
                if isinstance(node, ast.Assign):
                    inner = [one for one in ast.walk(node.value) if one is not node.value]
                    self.assertFalse([one for one in inner if isinstance(one, (ast.List, ast.Dict))], path.name)

    def test_errors_are_made_where_they_are_raised(self):
        for path, tree in trees():
            for node in ast.walk(tree):
                if isinstance(node, ast.Raise):
                    self.assertIsInstance(node.exc, ast.Call, f"{path.name}: {node.lineno}")
                    self.assertIsInstance(node.exc.func, ast.Name, f"{path.name}: {node.lineno}")


if __name__ == "__main__":
    unittest.main()

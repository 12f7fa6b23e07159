"""The form of the package: the main rules of the Python subset that it is written in."""

import ast
import builtins
import unittest
from pathlib import Path

PACKAGE = Path(__file__).resolve().parent.parent / "rulestand"
LIBRARY = {
    "heapq": {"heappush", "heappop", "heapify", "heapreplace", "heappushpop"},
    "math": {"gcd", "lcm", "isqrt", "comb", "perm", "factorial"},
    "itertools": {
        "product", "combinations", "permutations", "chain", "accumulate", "pairwise", "islice", "zip_longest",
    },
    "collections": {"defaultdict"},
}
BUILTINS = set(
    "len range enumerate zip min max sum abs sorted reversed int str bool list tuple dict set isinstance ord repr any "
    "all divmod iter next map Exception ValueError TypeError KeyError IndexError LookupError "
    "ZeroDivisionError ArithmeticError OverflowError RuntimeError NotImplementedError StopIteration "
    "NotImplemented property".split()
)
METHODS = set(
    "append clear copy count endswith extend find get index insert isalnum isalpha isdigit islower isspace isupper "
    "items join keys ljust lower lstrip partition pop remove replace reverse rfind rjust rpartition rsplit rstrip "
    "setdefault split splitlines startswith strip update upper values zfill bit_length add discard sort".split()
)
DUNDERS = {"__init__", "__eq__", "__repr__", "__str__", "__len__"}
STATEMENTS = (
    ast.FunctionDef, ast.ClassDef, ast.Assign, ast.AugAssign, ast.AnnAssign, ast.If, ast.While, ast.For, ast.Return,
    ast.Break, ast.Continue, ast.Pass, ast.Raise, ast.Assert, ast.Delete, ast.Nonlocal, ast.Try, ast.Expr,
    ast.ImportFrom,
)
NO_NAMES = set("register mro elements open input law version_info with_traceback add_note".split())
NO_WORDS = ("type", "typing", "enum", "Enum", "Flag", "Generic", "Protocol", "ABC", "namedtuple", "dataclass")


def files():
    return sorted(PACKAGE.rglob("*.py"))


def trees():
    return [(path, ast.parse(path.read_text(encoding="utf-8"))) for path in files()]


def bound_names(tree):
    """Return the names that are bound anywhere in a tree: variables, parameters, functions and classes."""
    found = []
    for node in ast.walk(tree):
        if isinstance(node, ast.Name) and isinstance(node.ctx, ast.Store):
            found.append(node.id)
        elif isinstance(node, ast.arg):
            found.append(node.arg)
    return found


def docstrings(tree):
    """Return the docstring nodes of a tree."""
    found = []
    for node in ast.walk(tree):
        if isinstance(node, (ast.Module, ast.ClassDef, ast.FunctionDef)) and ast.get_docstring(node) is not None:
            found.append(node.body[0].value)
    return found


class FileTest(unittest.TestCase):
    def test_the_package_holds_only_plain_python_files(self):
        for path in PACKAGE.rglob("*"):
            if "__pycache__" not in path.parts:
                self.assertEqual(path.suffix, ".py", path)
                self.assertTrue(path.stem.replace("_", "").isalnum() and path.stem == path.stem.lower(), path)
        self.assertTrue((PACKAGE / "__init__.py").is_file())

    def test_characters_and_sizes(self):
        for path in files():
            lines = path.read_text(encoding="utf-8").split("\n")
            self.assertLess(len(lines), 400, path)
            for number, line in enumerate(lines, 1):
                self.assertTrue(all(" " <= character <= "~" for character in line), (path, number))
                self.assertLessEqual(len(line), 120, (path, number))

    def test_functions_are_short(self):
        for path, tree in trees():
            for node in ast.walk(tree):
                if isinstance(node, ast.FunctionDef):
                    self.assertLessEqual(node.end_lineno - node.lineno + 1, 40, (path, node.name))


class ImportTest(unittest.TestCase):
    def test_imports_name_the_file_that_defines_the_name(self):
        defined = {path.stem: {node.name for node in tree.body if isinstance(node, (ast.FunctionDef, ast.ClassDef))} |
                   {target.id for node in tree.body if isinstance(node, ast.Assign) for target in node.targets}
                   for path, tree in trees()}
        for path, tree in trees():
            for node in ast.walk(tree):
                self.assertNotIsInstance(node, ast.Import, path)
                if isinstance(node, ast.ImportFrom):
                    self.assertIn(node, tree.body)
                    package, _, module = node.module.partition(".")
                    known = defined[module] if package == "rulestand" else LIBRARY[node.module]
                    for name in node.names:
                        self.assertIn(name.name, known, path)
                        self.assertIsNone(name.asname, path)

    def test_no_two_files_import_from_each_other(self):
        needs = {path.stem: {node.module.split(".")[1] for node in tree.body
                             if isinstance(node, ast.ImportFrom) and node.module.startswith("rulestand.")}
                 for path, tree in trees()}
        while needs:
            ready = [name for name, others in needs.items() if not others & set(needs)]
            self.assertTrue(ready, needs)
            for name in ready:
                del needs[name]


class SyntaxTest(unittest.TestCase):
    def test_module_level(self):
        for path, tree in trees():
            for node in tree.body:
                told = isinstance(node, (ast.FunctionDef, ast.ClassDef, ast.Assign, ast.ImportFrom))
                docstring = isinstance(node, ast.Expr) and isinstance(node.value, ast.Constant)
                self.assertTrue(told or docstring, (path, node.lineno))

    def test_statements_and_expressions(self):
        for path, tree in trees():
            for node in ast.walk(tree):
                place = (path, getattr(node, "lineno", 0))
                if isinstance(node, ast.stmt):
                    self.assertIsInstance(node, STATEMENTS, place)
                self.assertNotIsInstance(node, (ast.Div, ast.Set, ast.Await, ast.Yield, ast.YieldFrom), place)
                if isinstance(node, ast.Constant):
                    self.assertNotIsInstance(node.value, (float, complex), place)
                if isinstance(node, (ast.FunctionDef, ast.ClassDef)):
                    for decorator in node.decorator_list:
                        self.assertEqual(getattr(decorator, "id", None), "property", place)
                if isinstance(node, ast.Compare) and any(isinstance(op, (ast.Is, ast.IsNot)) for op in node.ops):
                    self.assertIsInstance(node.comparators[0], ast.Constant, place)

    def test_double_underscores(self):
        for path, tree in trees():
            for node in ast.walk(tree):
                if isinstance(node, (ast.FunctionDef, ast.ClassDef)) and node.name.startswith("__"):
                    self.assertIn(node.name, DUNDERS, path)
                if isinstance(node, (ast.Name, ast.Attribute)):
                    self.assertFalse((getattr(node, "id", None) or node.attr).startswith("__"), path)

    def test_a_bound_name_at_module_level_is_bound_once(self):
        for path, tree in trees():
            names = [target.id for node in tree.body if isinstance(node, ast.Assign) for target in node.targets]
            names += [node.name for node in tree.body if isinstance(node, (ast.FunctionDef, ast.ClassDef))]
            names += [name.name for node in tree.body if isinstance(node, ast.ImportFrom) for name in node.names]
            self.assertEqual(len(names), len(set(names)), path)


class NameTest(unittest.TestCase):
    def test_builtins(self):
        for path, tree in trees():
            for node in ast.walk(tree):
                if isinstance(node, ast.Name) and isinstance(node.ctx, ast.Load) and hasattr(builtins, node.id):
                    self.assertIn(node.id, BUILTINS, (path, node.lineno))

    def test_no_name_hides_a_builtin_an_import_or_a_class(self):
        for path, tree in trees():
            hidden = {name.name for node in tree.body if isinstance(node, ast.ImportFrom) for name in node.names}
            hidden |= {node.name for node in tree.body if isinstance(node, ast.ClassDef)}
            for name in bound_names(tree):
                self.assertNotIn(name, hidden, path)
                self.assertFalse(hasattr(builtins, name), (path, name))
            for node in ast.walk(tree):
                if isinstance(node, (ast.FunctionDef, ast.ClassDef)):
                    self.assertFalse(hasattr(builtins, node.name) and not node.name.startswith("__"), (path, node.name))

    def test_methods(self):
        own = {part.name for _, tree in trees() for node in ast.walk(tree) if isinstance(node, ast.ClassDef)
               for part in node.body if isinstance(part, ast.FunctionDef)}
        for path, tree in trees():
            for node in ast.walk(tree):
                if isinstance(node, ast.Call) and isinstance(node.func, ast.Attribute):
                    self.assertIn(node.func.attr, METHODS | own, (path, node.lineno))

    def test_methods_properties_and_attributes_have_different_names(self):
        stored, properties = set(), set()
        for path, tree in trees():
            for node in ast.walk(tree):
                if isinstance(node, ast.ClassDef):
                    methods = [part for part in node.body if isinstance(part, ast.FunctionDef)]
                    names = {part.attr for part in ast.walk(node)
                             if isinstance(part, ast.Attribute) and isinstance(part.ctx, ast.Store)}
                    self.assertEqual(names & {part.name for part in methods}, set(), (path, node.name))
                    properties |= {part.name for part in methods if part.decorator_list}
                    stored |= names
        self.assertEqual(stored & properties, set())

    def test_what_a_loop_goes_over_is_not_changed_in_it(self):
        changing = ("append", "clear", "extend", "insert", "pop", "remove", "reverse", "setdefault", "update", "sort")
        for path, tree in trees():
            for node in ast.walk(tree):
                if isinstance(node, ast.For):
                    gone_over = {ast.unparse(part) for part in ast.walk(node.iter)
                                 if isinstance(part, (ast.Name, ast.Attribute))}
                    for part in [part for row in node.body for part in ast.walk(row)]:
                        if isinstance(part, ast.Call) and isinstance(part.func, ast.Attribute):
                            if part.func.attr in changing:
                                self.assertNotIn(ast.unparse(part.func.value), gone_over, (path, part.lineno))

    def test_words_that_are_not_used(self):
        for path, tree in trees():
            told = docstrings(tree)
            for node in ast.walk(tree):
                for name in [getattr(node, part, None) for part in ("id", "attr", "arg", "name")]:
                    if isinstance(name, str):
                        self.assertNotIn(name, NO_NAMES | set(NO_WORDS), path)
                if isinstance(node, ast.Constant) and isinstance(node.value, str) and node not in told:
                    self.assertNotIn("%", node.value, (path, node.lineno))
                    for word in NO_WORDS:
                        self.assertNotIn(word, node.value.replace("_", " ").split(), (path, node.lineno))


if __name__ == "__main__":
    unittest.main()

"""The rules of LANGUAGE.md that can be looked up in the package's files one by one."""

import ast
import builtins
import pathlib
import re
import unittest

ROOT = pathlib.Path(__file__).resolve().parent.parent
FILES = sorted((ROOT / "peakroll").glob("*.py"))
BUILTINS = set("""len range enumerate zip min max sum abs sorted reversed int str bool bytes list tuple dict set
frozenset isinstance ord repr any all divmod Exception ValueError TypeError KeyError IndexError LookupError
ZeroDivisionError ArithmeticError OverflowError RuntimeError NotImplementedError AttributeError
StopIteration""".split())
BARRED_WORDS = set("""type typing typing_extensions enum Enum IntEnum StrEnum Flag IntFlag Generic Protocol ABC
ABCMeta namedtuple NamedTuple TypedDict TYPE_CHECKING abstractmethod""".split())
BARRED_NAMES = set("""register mro elements open input version_info with_traceback add_note attrgetter breakpoint
builtins compile copyright credits delattr dir eval exec exit gc getattr globals hasattr help id importlib license
locals methodcaller os quit setattr super type vars sys""".split())
BARRED_NODES = (ast.With, ast.Match, ast.Global, ast.Nonlocal, ast.Yield, ast.YieldFrom, ast.AsyncFunctionDef,
                ast.Await, ast.AsyncFor, ast.AsyncWith, ast.Import, ast.GeneratorExp, ast.NamedExpr, ast.Div,
                ast.TryStar)
# Methods of builtin values.
METHODS = set("""append clear copy count endswith extend find get index insert isalnum isalpha isdigit islower isspace
isupper items join keys ljust lower lstrip partition pop remove replace reverse rfind rjust rpartition rsplit rstrip
setdefault split splitlines startswith strip update upper values zfill bit_length title capitalize swapcase casefold
center expandtabs removeprefix removesuffix rindex isascii isdecimal isnumeric istitle isidentifier isprintable sort add
discard""".split())
KEYWORDS = {"sorted": {"key", "reverse"}, "min": {"key", "default"}, "max": {"key", "default"}, "sum": {"start"},
            "enumerate": {"start"}, "zip": {"strict"}}
DOUBLES = {"__init__", "__eq__", "__repr__", "__str__", "__len__"}


def tree_of(file):
    return ast.parse(file.read_text(encoding="ascii"))


def all_nodes():
    return [node for file in FILES for node in ast.walk(tree_of(file))]


def own_methods():
    return {item.name for node in all_nodes() if isinstance(node, ast.ClassDef)
            for item in node.body if isinstance(item, ast.FunctionDef)}


def is_set(node):
    if isinstance(node, ast.Call) and isinstance(node.func, ast.Name):
        return node.func.id in ("set", "frozenset")
    return isinstance(node, (ast.Set, ast.SetComp))


def named(node):
    """The names that the node binds."""
    if isinstance(node, ast.Name) and isinstance(node.ctx, ast.Store):
        return [node.id]
    if isinstance(node, (ast.FunctionDef, ast.ClassDef)):
        return [node.name]
    if isinstance(node, ast.arg):
        return [node.arg]
    return []


class Language(unittest.TestCase):

    def test_there_are_files(self):
        names = [file.name for file in FILES]
        for name in ["__init__.py", "errors.py", "ladders.py", "laddertexts.py", "bars.py", "entrytexts.py", "books.py",
                     "rolls.py", "covers.py", "changes.py", "followers.py", "locks.py", "plans.py", "keepers.py",
                     "deeds.py", "houses.py"]:
            self.assertIn(name, names)

    def test_the_folder_holds_nothing_else(self):
        for path in (ROOT / "peakroll").iterdir():
            self.assertTrue(path in FILES or path.name == "__pycache__", path)
            if path in FILES:
                self.assertRegex(path.stem, "^(__init__|[a-z][a-z0-9_]*)$")
                self.assertFalse(path.stem != "__init__" and hasattr(builtins, path.stem))

    def test_characters_and_lines(self):
        for file in FILES:
            text = file.read_bytes().decode("ascii")
            self.assertRegex(text, r"^[ -~\n]*$")
            self.assertNotIn("%", re.sub(r" % ", "", text), file)
            self.assertLessEqual(len(text.splitlines()), 400, file)
            for line in text.splitlines():
                self.assertLessEqual(len(line), 120, line)

    def test_barred_words(self):
        for file in FILES:
            words = set(re.findall(r"\w+", file.read_text()))
            self.assertEqual(words & BARRED_WORDS, set(), file)

    def test_imports(self):
        for file in FILES:
            for node in ast.walk(tree_of(file)):
                if isinstance(node, ast.ImportFrom):
                    self.assertRegex(node.module, r"^peakroll\.[a-z]+$")
                    self.assertEqual(node.level, 0)
                    defined = self.defined_in(ROOT / (node.module.replace(".", "/") + ".py"))
                    for alias in node.names:
                        self.assertIn(alias.name, defined)

    def defined_in(self, file):
        names = []
        for node in tree_of(file).body:
            if isinstance(node, ast.Assign):
                names += [target.id for target in node.targets]
            names += named(node)
        return names

    def test_module_level(self):
        plain = (ast.ImportFrom, ast.FunctionDef, ast.ClassDef, ast.Assign)
        for file in FILES:
            for at, node in enumerate(tree_of(file).body):
                docstring = at == 0 and isinstance(node, ast.Expr) and isinstance(node.value, ast.Constant)
                self.assertTrue(docstring or isinstance(node, plain), (file, node.lineno))

    def test_statements_and_values(self):
        for file in FILES:
            for node in ast.walk(tree_of(file)):
                self.assertNotIsInstance(node, BARRED_NODES, file)
                if isinstance(node, ast.Constant):
                    self.assertNotIsInstance(node.value, (float, complex))
                if isinstance(node, (ast.For, ast.While)):
                    self.assertEqual(node.orelse, [], (file, node.lineno))
                if isinstance(node, ast.Compare) and isinstance(node.ops[0], (ast.Is, ast.IsNot)):
                    self.assertIsInstance(node.comparators[0], ast.Constant)

    def test_functions(self):
        for file in FILES:
            for node in ast.walk(tree_of(file)):
                if isinstance(node, (ast.FunctionDef, ast.ClassDef)):
                    self.assertEqual(node.decorator_list, [], node.name)
                if isinstance(node, ast.FunctionDef):
                    self.assertLessEqual(node.end_lineno - node.lineno + 1, 40, node.name)
                    self.assertIsNone(node.args.vararg or node.args.kwarg, node.name)

    def test_names(self):
        for file in FILES:
            for node in ast.walk(tree_of(file)):
                for name in named(node):
                    self.assertNotIn(name, BARRED_NAMES, file)
                    self.assertTrue(name in DOUBLES or re.match("^[A-Za-z][A-Za-z0-9_]*$", name), name)
                if isinstance(node, (ast.arg, ast.Name)):
                    for name in named(node):
                        self.assertFalse(hasattr(builtins, name), name)

    def test_builtins(self):
        for file in FILES:
            for node in ast.walk(tree_of(file)):
                if isinstance(node, ast.Name) and hasattr(builtins, node.id):
                    self.assertIn(node.id, BUILTINS, file)

    def test_attributes(self):
        """No name is a method and an attribute; what is read is assigned; methods are own ones or allowed ones."""
        methods, calls, reads, assigned = own_methods(), set(), set(), set()
        for node in all_nodes():
            if isinstance(node, ast.Attribute):
                (assigned if isinstance(node.ctx, ast.Store) else reads).add(node.attr)
            if isinstance(node, ast.Call) and isinstance(node.func, ast.Attribute):
                calls.add(node.func.attr)
        self.assertEqual(methods & assigned, set())
        self.assertEqual(calls - methods - METHODS, set())
        self.assertEqual(reads - calls - assigned, set())

    def test_calls(self):
        for node in all_nodes():
            if isinstance(node, ast.Call):
                self.assertFalse([item for item in node.args if isinstance(item, ast.Starred)], node.lineno)
                name = node.func.id if isinstance(node.func, ast.Name) else ""
                allowed = KEYWORDS.get(name, set())
                self.assertLessEqual({keyword.arg for keyword in node.keywords}, allowed, node.lineno)

    def test_sets_are_used_on_the_spot(self):
        """The package stores no set: each stands in sorted or len, or after in."""
        for file in FILES:
            tree = tree_of(file)
            allowed = set()
            for node in ast.walk(tree):
                if isinstance(node, ast.Call) and isinstance(node.func, ast.Name):
                    if node.func.id in ("sorted", "len"):
                        allowed |= {id(item) for item in node.args}
                if isinstance(node, ast.Compare) and isinstance(node.ops[0], (ast.In, ast.NotIn)):
                    allowed.add(id(node.comparators[0]))
            for node in ast.walk(tree):
                self.assertTrue(not is_set(node) or id(node) in allowed, (file, getattr(node, "lineno", 0)))

    def test_each_name_is_bound_once(self):
        """At module level; and no name inside a function is that of an import or a class of its file."""
        for file in FILES:
            tree = tree_of(file)
            imported = [alias.asname or alias.name for node in tree.body if isinstance(node, ast.ImportFrom)
                        for alias in node.names]
            bound = imported + self.defined_in(file)
            self.assertEqual(len(bound), len(set(bound)), file)
            taken = set(imported) | {node.name for node in tree.body if isinstance(node, ast.ClassDef)}
            for node in ast.walk(tree):
                if isinstance(node, (ast.Name, ast.arg)):
                    self.assertEqual(set(named(node)) & taken, set(), file)

    def test_no_two_files_import_from_each_other(self):
        below = {}
        for file in FILES:
            below[f"peakroll.{file.stem}"] = {node.module for node in ast.walk(tree_of(file))
                                              if isinstance(node, ast.ImportFrom)}
        while below:
            ready = [name for name in below if not below[name] & set(below)]
            self.assertNotEqual(ready, [], below)
            for name in ready:
                del below[name]


if __name__ == "__main__":
    unittest.main()

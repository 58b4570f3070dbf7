"""The shape of the package: what its interface lists, and those rules of the language that can be seen from outside."""

import ast
import builtins
import doctest
import io
import os
import tokenize
import unittest

TOP = os.path.dirname(os.path.dirname(os.path.abspath(__file__)))
PACKAGE = os.path.join(TOP, "letterheld")

# The functions, and the classes with their methods, that each file must define itself.
FUNCTIONS = {
    "errors.py": [],
    "notation.py": [
        "is_office", "is_thing", "id_of", "maker_of", "format_line", "parse_line", "format_journal", "parse_journal",
        "format_letter", "parse_letter",
    ],
    "net.py": [],
    "office.py": [],
    "world.py": [],
    "audit.py": ["history", "parts", "holders", "claims", "called_back", "totals", "faults"],
    "session.py": ["replay"],
}
CLASSES = {
    "errors.py": {
        name: [] for name in (
            "HeldError", "InvalidLine", "BrokenJournal", "InvalidLetter", "NotHeld", "Frozen", "UnknownThing",
            "InvalidQuantity", "InvalidOffice", "InvalidThings", "NoLetter", "InvalidCommand")
    },
    "notation.py": {},
    "net.py": {"Net": ["letters", "send", "take", "double"]},
    "office.py": {"Office": [
        "journal", "entry", "known", "held", "payments", "credit", "create", "give", "use", "recall", "split", "join",
        "pending", "receive"]},
    "world.py": {"World": [
        "names", "office", "create", "split", "join", "give", "use", "recall", "tick", "deliver", "cut", "calm"]},
    "audit.py": {},
    "session.py": {"Session": ["run", "transcript", "journals"]},
}
ALLOWED_BUILTINS = set(
    "len range enumerate zip min max sum abs sorted reversed int str bool list tuple dict set isinstance ord repr any all"
    " divmod super".split())
NEVER_NAMES = set("register mro elements open input law version_info with_traceback add_note".split())
NEVER_WORDS = set(
    "type typing typing_extensions enum Enum IntEnum StrEnum Flag IntFlag Generic Protocol ABC ABCMeta namedtuple NamedTuple"
    " TypedDict TYPE_CHECKING abstractmethod dataclass overload contextmanager _wall _WallAttr".split())
METHODS = set(
    "append clear copy count endswith extend find get index insert isalnum isalpha isdigit islower isspace isupper items join keys"
    " ljust lower lstrip partition pop remove replace reverse rfind rjust rpartition rsplit rstrip setdefault split splitlines"
    " startswith strip update upper values zfill bit_length removeprefix removesuffix isascii isdecimal add".split())
STATEMENTS = (
    ast.Assign, ast.AugAssign, ast.If, ast.While, ast.For, ast.Return, ast.Break, ast.Continue, ast.Pass, ast.Raise, ast.Try,
    ast.Expr, ast.FunctionDef, ast.ClassDef, ast.ImportFrom)


def package_files():
    return sorted(name for name in os.listdir(PACKAGE) if name != "__pycache__")


def text_of(name):
    with open(os.path.join(PACKAGE, name), "rb") as file:
        return file.read()


def tree_of(name):
    return ast.parse(text_of(name))


def all_nodes():
    for name in package_files():
        for node in ast.walk(tree_of(name)):
            yield name, node


def bound_names(tree):
    """All names that a file gives to functions, classes, parameters and variables."""
    for node in ast.walk(tree):
        if isinstance(node, (ast.FunctionDef, ast.ClassDef)):
            yield node.name
        elif isinstance(node, ast.arg):
            yield node.arg
        elif isinstance(node, ast.Name) and isinstance(node.ctx, ast.Store):
            yield node.id
        elif isinstance(node, ast.ExceptHandler) and node.name:
            yield node.name


def own_methods():
    """The names of all methods and functions of the package."""
    return {node.name for _, node in all_nodes() if isinstance(node, ast.FunctionDef)}


def own_attributes():
    return {node.attr for _, node in all_nodes() if isinstance(node, ast.Attribute) and isinstance(node.ctx, ast.Store)}


class PackageTest(unittest.TestCase):
    def test_only_plain_files(self):
        for name in package_files():
            self.assertRegex(name, "^[a-z0-9_]+[.]py$")
        self.assertIn("__init__.py", package_files())

    def test_characters_and_sizes(self):
        for name in package_files():
            data = text_of(name)
            self.assertEqual([sign for sign in data if sign != 10 and not 32 <= sign <= 126], [], name)
            lines = data.decode("ascii").split("\n")
            self.assertLessEqual(len(lines), 399, name)
            self.assertLessEqual(max(len(line) for line in lines), 120, name)

    def test_functions_are_short(self):
        for name, node in all_nodes():
            if isinstance(node, ast.FunctionDef):
                self.assertLessEqual(node.end_lineno - node.lineno + 1, 40, (name, node.name))

    def test_imports_are_from_the_package(self):
        for name, node in all_nodes():
            self.assertNotIsInstance(node, ast.Import, name)
            if isinstance(node, ast.ImportFrom):
                self.assertEqual((node.level, node.module.split(".")[0]), (0, "letterheld"), name)

    def test_imports_name_the_file_that_defines_the_name(self):
        for name, node in all_nodes():
            if isinstance(node, ast.ImportFrom):
                defined = set()
                for other in tree_of(node.module.split(".")[1] + ".py").body:
                    if isinstance(other, (ast.FunctionDef, ast.ClassDef)):
                        defined.add(other.name)
                    if isinstance(other, ast.Assign):
                        defined.add(other.targets[0].id)
                for alias in node.names:
                    self.assertIn(alias.name, defined, name)
                    self.assertIsNone(alias.asname)

    def test_no_two_files_import_from_each_other(self):
        ways = {}
        for name, node in all_nodes():
            if isinstance(node, ast.ImportFrom):
                ways.setdefault(name, set()).add(node.module.split(".")[1] + ".py")
        reached = {name: set(others) for name, others in ways.items()}
        for _ in ways:
            for others in reached.values():
                others |= set().union(*(reached.get(other, set()) for other in others))
        for name, others in reached.items():
            self.assertNotIn(name, others)

    def test_every_import_is_used(self):
        for name in package_files():
            tree = tree_of(name)
            used = {node.id for node in ast.walk(tree) if isinstance(node, ast.Name)}
            imported = {alias.name for node in tree.body if isinstance(node, ast.ImportFrom) for alias in node.names}
            self.assertLessEqual(imported, used, name)

    def test_only_plain_statements(self):
        for name, node in all_nodes():
            if isinstance(node, ast.stmt):
                self.assertIsInstance(node, STATEMENTS, (name, node.lineno))
            self.assertNotIsInstance(node, (ast.Div, ast.MatMult, ast.Set, ast.Lambda, ast.NamedExpr, ast.GeneratorExp, ast.Yield), name)
            if isinstance(node, ast.Constant):
                self.assertNotIsInstance(node.value, (float, complex, bytes), name)
            if isinstance(node, (ast.FunctionDef, ast.ClassDef)):
                self.assertEqual(node.decorator_list, [])
            if isinstance(node, ast.Assign):
                self.assertEqual(len(node.targets), 1)

    def test_module_level(self):
        for name in package_files():
            for node in tree_of(name).body:
                docstring = isinstance(node, ast.Expr) and isinstance(node.value, ast.Constant)
                allowed = (ast.ImportFrom, ast.FunctionDef, ast.ClassDef, ast.Assign)
                self.assertTrue(docstring or isinstance(node, allowed), (name, node.lineno))

    def test_module_level_names_are_bound_once(self):
        for name in package_files():
            found = []
            for node in tree_of(name).body:
                if isinstance(node, ast.ImportFrom):
                    found += [alias.name for alias in node.names]
                if isinstance(node, (ast.FunctionDef, ast.ClassDef)):
                    found.append(node.name)
                if isinstance(node, ast.Assign):
                    found.append(node.targets[0].id)
            self.assertEqual(len(set(found)), len(found), name)

    def test_names(self):
        for name in package_files():
            tree = tree_of(name)
            imported = {alias.name for node in tree.body if isinstance(node, ast.ImportFrom) for alias in node.names}
            classes = {node.name for node in tree.body if isinstance(node, ast.ClassDef)}
            inner = {node.id for node in ast.walk(tree) if isinstance(node, ast.Name) and isinstance(node.ctx, ast.Store)}
            inner |= {node.arg for node in ast.walk(tree) if isinstance(node, ast.arg)}
            self.assertEqual(inner & (imported | classes), set(), name)
            for bound in bound_names(tree):
                self.assertNotIn(bound, NEVER_NAMES, name)
                if bound != "__init__":
                    self.assertFalse(bound.startswith("__"), (name, bound))
                # Python's own prompt, and so a doctest, puts `_` among the builtins.
                self.assertFalse(bound != "_" and bound in vars(builtins), (name, bound))

    def test_builtins(self):
        errors = {"ValueError"}
        for name in package_files():
            tree = tree_of(name)
            bound = set(bound_names(tree))
            bound |= {alias.name for node in tree.body if isinstance(node, ast.ImportFrom) for alias in node.names}
            for node in ast.walk(tree):
                if isinstance(node, ast.Name) and isinstance(node.ctx, ast.Load) and node.id not in bound:
                    self.assertIn(node.id, ALLOWED_BUILTINS | errors, (name, node.lineno))

    def test_methods_and_attributes(self):
        known = METHODS | own_methods() | own_attributes() | {"__class__", "__name__", "__init__"}
        for name, node in all_nodes():
            if isinstance(node, ast.Attribute):
                self.assertIn(node.attr, known, (name, node.lineno))

    def test_no_name_is_a_method_and_an_attribute(self):
        for name, node in all_nodes():
            if isinstance(node, ast.ClassDef):
                methods = {part.name for part in node.body if isinstance(part, ast.FunctionDef)}
                stored = {
                    part.attr for part in ast.walk(node) if isinstance(part, ast.Attribute) and isinstance(part.ctx, ast.Store)}
                self.assertEqual(methods & stored, set(), (name, node.name))

    def test_attributes_are_assigned_through_a_name(self):
        for name, node in all_nodes():
            if isinstance(node, ast.Attribute) and isinstance(node.ctx, ast.Store):
                self.assertIsInstance(node.value, ast.Name, (name, node.lineno))

    def test_strings(self):
        for name, node in all_nodes():
            if isinstance(node, ast.Constant) and isinstance(node.value, str):
                self.assertNotIn("%", node.value)
                self.assertFalse(node.value.startswith("__") and node.value.endswith("__") and node.value)

    def test_words(self):
        for name in package_files():
            for token in tokenize.generate_tokens(io.StringIO(text_of(name).decode("ascii")).readline):
                if token.type == tokenize.NAME:
                    self.assertNotIn(token.string, NEVER_WORDS, name)

    def test_no_sets_that_are_iterated(self):
        """A set is measured, sorted, compared, or asked by `in`; a variable is assigned one once."""
        for name, node in all_nodes():
            if isinstance(node, (ast.For, ast.comprehension)):
                told = node.iter
                self.assertNotIsInstance(told, (ast.Set, ast.SetComp), name)
                if isinstance(told, ast.Call) and isinstance(told.func, ast.Name):
                    self.assertNotEqual(told.func.id, "set", name)

    def test_handlers_catch_own_errors_only(self):
        for name, node in all_nodes():
            if isinstance(node, ast.ExceptHandler):
                self.assertIn(node.type.id, CLASSES["errors.py"], name)

    def test_is_only_beside_constants(self):
        for name, node in all_nodes():
            if isinstance(node, ast.Compare) and isinstance(node.ops[0], (ast.Is, ast.IsNot)):
                self.assertIsInstance(node.comparators[0], ast.Constant, (name, node.lineno))

    def test_the_interface_is_defined_where_it_is_listed(self):
        for name in FUNCTIONS:
            body = tree_of(name).body
            functions = [node.name for node in body if isinstance(node, ast.FunctionDef)]
            classes = {node.name: node for node in body if isinstance(node, ast.ClassDef)}
            for wanted in FUNCTIONS[name]:
                self.assertIn(wanted, functions, name)
            for wanted, methods in CLASSES[name].items():
                self.assertIn(wanted, classes, name)
                found = [node.name for node in classes[wanted].body if isinstance(node, ast.FunctionDef)]
                for method in methods:
                    self.assertIn(method, found, wanted)


class ReadmeTest(unittest.TestCase):
    def test_examples(self):
        failed, tried = doctest.testfile(os.path.join(TOP, "README.md"), module_relative=False)
        self.assertGreater(tried, 0)
        self.assertEqual(failed, 0)


if __name__ == "__main__":
    unittest.main()

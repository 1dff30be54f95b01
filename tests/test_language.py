"""The rules of LANGUAGE.md that can be seen in the files of the package without running them."""

import ast
import builtins
import re
import unittest
from pathlib import Path

PACKAGE = Path(__file__).resolve().parent.parent / "treewalkers"

ALLOWED_NODES = set("""
    Module Expr Assign AugAssign AnnAssign If While For Return Break Continue Pass Raise Assert Delete Try
    ExceptHandler FunctionDef ClassDef ImportFrom alias arguments arg keyword Lambda Name Attribute Subscript Slice
    Starred Constant JoinedStr FormattedValue List Tuple Dict Set ListComp DictComp SetComp comprehension Call IfExp
    BinOp UnaryOp BoolOp Compare Load Store Del Add Sub Mult FloorDiv Mod Pow LShift RShift BitAnd BitOr BitXor Invert
    USub UAdd Not And Or Eq NotEq Lt LtE Gt GtE Is IsNot In NotIn
""".split())

ALLOWED_BUILTINS = set("""
    len range enumerate zip min max sum abs sorted reversed int str bool bytes list tuple dict set frozenset isinstance
    ord repr any all divmod Exception ValueError TypeError KeyError IndexError LookupError ZeroDivisionError
    ArithmeticError OverflowError RuntimeError NotImplementedError StopIteration
""".split())

BARRED_WORDS = set("""
    type typing typing_extensions enum Enum IntEnum StrEnum Flag IntFlag Generic Protocol ABC ABCMeta namedtuple
    NamedTuple TypedDict TYPE_CHECKING abstractmethod
""".split())

BARRED_NAMES = set("""
    register mro elements open input version_info with_traceback add_note attrgetter breakpoint builtins compile
    copyright credits delattr dir eval exec exit gc getattr globals hasattr help id importlib license locals
    methodcaller os quit setattr super type vars sys
""".split())

ALLOWED_METHODS = set("""
    append clear copy count endswith extend find get index insert isalnum isalpha isdigit islower isspace isupper items
    join keys ljust lower lstrip partition pop remove replace reverse rfind rjust rpartition rsplit rstrip setdefault
    split splitlines startswith strip update upper values zfill bit_length
""".split())

ITERATED_AT_ONCE = {"zip", "enumerate", "reversed", "range"}
ITERATORS = set("list tuple dict sorted sum any all enumerate zip bytes min max len".split())

DUNDER_METHODS = {"__init__", "__eq__", "__repr__", "__str__", "__len__"}


def package_files():
    return sorted(path for path in PACKAGE.rglob("*") if "__pycache__" not in path.parts)


def bound_names(tree):
    """Every name that a file gives to something."""
    for node in ast.walk(tree):
        if isinstance(node, ast.Name) and not isinstance(node.ctx, ast.Load):
            yield node.id
        elif isinstance(node, (ast.FunctionDef, ast.ClassDef)):
            yield node.name
        elif isinstance(node, ast.arg):
            yield node.arg
        elif isinstance(node, ast.ExceptHandler) and node.name:
            yield node.name
        elif isinstance(node, ast.alias):
            yield node.asname or node.name


def read_files():
    """The name, the text and the parsed text of each file of the package."""
    for path in package_files():
        text = path.read_text(encoding="utf-8")
        yield path.name, text, ast.parse(text)


def defined_names(module):
    """The names that a module of the package defines itself, its imports left out."""
    source = PACKAGE / (module.split(".")[1] + ".py")
    body = ast.parse(source.read_text(encoding="utf-8")).body
    own = [node for node in body if not isinstance(node, ast.ImportFrom)]
    return set(bound_names(ast.Module(own, [])))


def imported_modules(tree):
    return {node.module for node in ast.walk(tree) if isinstance(node, ast.ImportFrom)}


def local_names(tree):
    """Every parameter and local variable of the functions of a file."""
    for function in ast.walk(tree):
        if isinstance(function, (ast.FunctionDef, ast.Lambda)):
            for node in ast.walk(function):
                if isinstance(node, ast.arg):
                    yield node.arg
                elif isinstance(node, ast.Name) and not isinstance(node.ctx, ast.Load):
                    yield node.id


def own_methods():
    """The names of all methods that the package defines."""
    return {method.name for file, text, tree in read_files() for node in tree.body if isinstance(node, ast.ClassDef)
            for method in node.body if isinstance(method, ast.FunctionDef)}


def assigned_attributes():
    return {node.attr for file, text, tree in read_files() for node in ast.walk(tree)
            if isinstance(node, ast.Attribute) and isinstance(node.ctx, ast.Store)}


def called_name(node):
    return node.func.id if isinstance(node, ast.Call) and isinstance(node.func, ast.Name) else None


def iterated_on_the_spot(tree):
    """What stands where it is iterated at once: behind the in of a for, or handed to what goes through it."""
    for node in ast.walk(tree):
        if isinstance(node, (ast.For, ast.comprehension)):
            yield node.iter
        elif called_name(node) in ITERATORS:
            yield from node.args


class LanguageTest(unittest.TestCase):
    def test_files(self):
        names = [path.name for path in package_files()]
        self.assertIn("__init__.py", names)
        for name in names:
            self.assertRegex(name, r"^(__init__|[a-z][a-z0-9_]*)\.py$")

    def test_signs_lines_and_words(self):
        for file, text, tree in read_files():
            self.assertRegex(text, r"\A[\n -~]*\Z", file)
            lines = text.split("\n")
            self.assertLessEqual(len(lines), 401, file)
            self.assertLessEqual(max(len(line) for line in lines), 120, file)
            self.assertEqual(set(re.findall(r"[A-Za-z0-9_]+", text)) & BARRED_WORDS, set(), file)
            self.assertNotRegex(text, "dataclass|overload|contextmanager", file)

    def test_functions_are_short(self):
        for file, text, tree in read_files():
            for node in ast.walk(tree):
                if isinstance(node, ast.FunctionDef):
                    self.assertLessEqual(node.end_lineno - node.lineno + 1, 40, (file, node.name))
                    self.assertEqual(node.decorator_list, [], (file, node.name))
                    self.assertIsNone(node.args.vararg, (file, node.name))
                    self.assertIsNone(node.args.kwarg, (file, node.name))
                    self.assertEqual(node.args.posonlyargs, [], (file, node.name))

    def test_only_allowed_statements_and_expressions(self):
        for file, text, tree in read_files():
            for node in ast.walk(tree):
                kind = node.__class__.__name__
                self.assertIn(kind, ALLOWED_NODES, (file, getattr(node, "lineno", None)))
                if isinstance(node, (ast.While, ast.For)):
                    self.assertEqual(node.orelse, [], (file, node.lineno))
                if isinstance(node, ast.Constant):
                    self.assertIsInstance(node.value, (int, str, bytes, bool, None.__class__), (file, node.lineno))
                if isinstance(node, ast.Constant) and isinstance(node.value, str):
                    self.assertNotIn("%", node.value, (file, node.lineno))

    def test_module_level(self):
        for file, text, tree in read_files():
            for node in tree.body:
                plain = isinstance(node, (ast.ImportFrom, ast.FunctionDef, ast.ClassDef, ast.Assign))
                docstring = node is tree.body[0] and isinstance(node, ast.Expr)
                self.assertTrue(plain or docstring, (file, node.lineno))

    def test_names(self):
        for file, text, tree in read_files():
            for name in bound_names(tree):
                if name not in DUNDER_METHODS:
                    self.assertRegex(name, r"^[A-Za-z][A-Za-z0-9_]*$", file)
                    self.assertFalse(hasattr(builtins, name), (file, name))
                self.assertNotIn(name, BARRED_NAMES, file)

    def test_builtins(self):
        for file, text, tree in read_files():
            bound = set(bound_names(tree))
            for node in ast.walk(tree):
                if isinstance(node, ast.Name) and node.id not in bound:
                    self.assertIn(node.id, ALLOWED_BUILTINS, (file, node.lineno))

    def test_imports_name_the_file_that_defines_the_name(self):
        for file, text, tree in read_files():
            for node in [node for node in ast.walk(tree) if isinstance(node, ast.ImportFrom)]:
                self.assertEqual(node.level, 0, file)
                self.assertRegex(node.module, r"^treewalkers\.[a-z_]+$", file)
                for one in node.names:
                    self.assertIn(one.name, defined_names(node.module), file)

    def test_is_only_of_none_and_truths(self):
        for file, text, tree in read_files():
            for node in ast.walk(tree):
                if isinstance(node, ast.Compare) and isinstance(node.ops[0], (ast.Is, ast.IsNot)):
                    self.assertIsInstance(node.comparators[0], ast.Constant, (file, node.lineno))
                    self.assertIn(node.comparators[0].value, (None, True, False), (file, node.lineno))

    def test_names_at_module_level_are_bound_once(self):
        for file, text, tree in read_files():
            names = []
            for node in tree.body:
                if isinstance(node, (ast.FunctionDef, ast.ClassDef)):
                    names.append(node.name)
                elif isinstance(node, ast.ImportFrom):
                    names += [one.asname or one.name for one in node.names]
                elif isinstance(node, ast.Assign):
                    names += [target.id for target in node.targets]
            self.assertEqual(sorted(set(names)), sorted(names), file)

    def test_local_names_hide_no_import_function_or_class(self):
        for file, text, tree in read_files():
            shared = [node for node in tree.body if isinstance(node, (ast.ImportFrom, ast.ClassDef))]
            taken = set()
            for node in shared:
                taken |= {node.name} if isinstance(node, ast.ClassDef) else set(bound_names(node))
            taken |= {node.name for node in tree.body if isinstance(node, ast.FunctionDef)}
            # The interface itself tells a function code and an argument code of another one in this file.
            taken -= {"code"} if file == "codes.py" else set()
            self.assertEqual(set(local_names(tree)) & taken, set(), file)

    def test_no_two_files_import_from_each_other(self):
        above = {"treewalkers." + file[:-3]: imported_modules(tree) for file, text, tree in read_files()}
        while above:
            # What imports none of the files that are left can be taken out; in a round nothing can.
            free = [module for module, others in above.items() if not others & set(above)]
            self.assertNotEqual(free, [], sorted(above))
            above = {module: others for module, others in above.items() if module not in free}

    def test_each_import_is_used(self):
        for file, text, tree in read_files():
            used = {node.id for node in ast.walk(tree) if isinstance(node, ast.Name)}
            for node in [node for node in tree.body if isinstance(node, ast.ImportFrom)]:
                self.assertEqual({one.name for one in node.names} - used, set(), file)

    def test_classes(self):
        for file, text, tree in read_files():
            for node in [node for node in ast.walk(tree) if isinstance(node, ast.ClassDef)]:
                self.assertIn(node, tree.body, (file, node.name))
                self.assertLessEqual(len(node.bases), 1, (file, node.name))
                self.assertEqual((node.keywords, node.decorator_list), ([], []), (file, node.name))
                docstring = isinstance(node.body[0], ast.Expr) and isinstance(node.body[0].value, ast.Constant)
                methods = node.body[1:] if docstring else node.body
                for method in methods:
                    self.assertIsInstance(method, ast.FunctionDef, (file, node.name))
                names = [method.name for method in methods]
                self.assertEqual(sorted(set(names)), sorted(names), (file, node.name))

    def test_no_name_is_a_method_and_an_attribute(self):
        methods, attributes = own_methods(), assigned_attributes()
        self.assertEqual(methods & attributes, set())
        for file, text, tree in read_files():
            called = [node.func for node in ast.walk(tree) if isinstance(node, ast.Call)]
            for node in ast.walk(tree):
                if isinstance(node, ast.Attribute) and node not in called:
                    self.assertIn(node.attr, attributes, (file, node.lineno))

    def test_methods_and_attributes_have_names_of_their_own(self):
        values = ("", 0, [], {}, set(), b"", ())
        for own in (own_methods() - DUNDER_METHODS) | assigned_attributes():
            for value in values:
                self.assertFalse(hasattr(value, own), own)

    def test_sets_are_not_stored(self):
        # They stand in sorted(..), in len(..) or behind an in alone; more than that (L24) is not needed here.
        for file, text, tree in read_files():
            fine = []
            for node in ast.walk(tree):
                fine += node.args if called_name(node) in ("sorted", "len") else []
                fine += node.comparators if isinstance(node, ast.Compare) else []
            for node in ast.walk(tree):
                if isinstance(node, (ast.Set, ast.SetComp)) or called_name(node) in ("set", "frozenset"):
                    self.assertIn(node, fine, (file, node.lineno))

    def test_values_of_dicts_are_iterated_at_once(self):
        for file, text, tree in read_files():
            fine = list(iterated_on_the_spot(tree))
            for node in ast.walk(tree):
                if isinstance(node, ast.Call) and isinstance(node.func, ast.Attribute):
                    if node.func.attr in ("items", "keys", "values"):
                        self.assertIn(node, fine, (file, node.lineno))

    def test_methods_of_builtin_values(self):
        own = own_methods()
        for file, text, tree in read_files():
            for node in ast.walk(tree):
                if isinstance(node, ast.Call) and isinstance(node.func, ast.Attribute):
                    self.assertIn(node.func.attr, ALLOWED_METHODS | own, (file, node.lineno))

    def test_iterated_at_once(self):
        for file, text, tree in read_files():
            fine = list(iterated_on_the_spot(tree))
            for node in ast.walk(tree):
                if called_name(node) in ITERATED_AT_ONCE:
                    self.assertIn(node, fine, (file, node.lineno))

    def test_powers_have_a_written_exponent(self):
        for file, text, tree in read_files():
            for node in ast.walk(tree):
                if isinstance(node, ast.BinOp) and isinstance(node.op, ast.Pow):
                    self.assertIsInstance(node.right, ast.Constant, (file, node.lineno))


if __name__ == "__main__":
    unittest.main()

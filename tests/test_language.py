"""The rules of the language that can be seen from the files alone, and the interface."""

import ast
import builtins
import pathlib
import re
import unittest
import warnings

PACKAGE = pathlib.Path(__file__).resolve().parent.parent / "whatnext"

DEFINED = {
    "errors.py": (
        "NextError", "NoBook", "Bent", "TooGreat", "NoCarry", "NoAsking", "NoMost", "NoText", "NoRow", "NoStand",
    ),
    "books.py": ("is_word", "is_simple", "why_no_book", "need_book", "parts_of", "all_places", "term_at"),
    "runs.py": ("run",),
    "lasts.py": ("last_places", "led_places"),
    "turnedbooks.py": ("is_turned", "turned_parts"),
    "turnedruns.py": ("run_turned",),
    "anew.py": ("anew", "word_of", "book_anew", "are_alike"),
    "turning.py": ("turn_book",),
    "back.py": ("bent_at", "back", "is_neat", "named_book"),
    "laid.py": ("is_laid", "laid"),
    "slim.py": ("idle_places", "slim"),
    "stands.py": ("cards", "is_stand", "behind"),
    "rounds.py": ("gone_on",),
    "waits.py": ("most_waiting", "shows_most", "shows_ring"),
    "carried.py": ("not_carried_at", "carried"),
    "texts.py": ("show_book", "show_turned", "read_book"),
    "desk.py": ("Desk",),
}

ALLOWED = set(
    "len range enumerate zip min max sum abs sorted reversed int str bool bytes list tuple dict set frozenset"
    " isinstance ord repr any all divmod iter next super property staticmethod classmethod"
    " Exception ValueError TypeError KeyError IndexError LookupError ZeroDivisionError ArithmeticError"
    " OverflowError RuntimeError NotImplementedError AttributeError StopIteration NotImplemented".split()
)

METHODS = set(
    "append clear copy count endswith extend find get index insert isalnum isalpha isdigit islower isspace isupper"
    " items join keys ljust lower lstrip partition pop remove replace reverse rfind rjust rpartition rsplit rstrip"
    " setdefault sort split splitlines startswith strip update upper values zfill bit_length title capitalize"
    " swapcase casefold center expandtabs removeprefix removesuffix rindex isascii isdecimal isnumeric istitle"
    " isidentifier isprintable add discard".split()
)

BARRED = (
    "type typing typing_extensions enum Enum IntEnum StrEnum Flag IntFlag Generic Protocol ABC ABCMeta namedtuple"
    " NamedTuple TypedDict TYPE_CHECKING abstractmethod"
).split()

UNUSED = (ast.Global, ast.AsyncFunctionDef, ast.Await, ast.Import, ast.Div, ast.AnnAssign)


def files():
    return sorted(PACKAGE.rglob("*.py"))


def with_parents():
    """Each node of each file, behind its path, with the node right around it."""
    for path in files():
        for around in ast.walk(ast.parse(path.read_text())):
            for node in ast.iter_child_nodes(around):
                yield path, node, around


def is_call_of(node, names):
    return isinstance(node, ast.Call) and isinstance(node.func, ast.Name) and node.func.id in names


def names_bound(tree):
    for node in ast.walk(tree):
        if isinstance(node, ast.arg):
            yield node.arg
        elif isinstance(node, (ast.FunctionDef, ast.ClassDef)):
            yield node.name
        elif isinstance(node, ast.Name) and isinstance(node.ctx, ast.Store):
            yield node.id
        elif isinstance(node, ast.Attribute) and isinstance(node.ctx, ast.Store):
            yield node.attr


class LanguageTest(unittest.TestCase):
    def test_the_folder_holds_only_python_files(self):
        for path in PACKAGE.rglob("*"):
            if path.name != "__pycache__" and path.parent.name != "__pycache__":
                self.assertRegex(path.name, r"^[a-z0-9_]+\.py$")

    def test_size_and_signs(self):
        for path in files():
            text = path.read_text()
            lines = text.splitlines()
            self.assertLessEqual(len(lines), 399, path)
            self.assertEqual(re.sub(r"[ -~\n]", "", text), "", path)
            for number, line in enumerate(lines, 1):
                self.assertLessEqual(len(line), 120, (path, number))

    def test_functions_are_short(self):
        for path in files():
            for node in ast.walk(ast.parse(path.read_text())):
                if isinstance(node, ast.FunctionDef):
                    self.assertLessEqual(node.end_lineno - node.lineno + 1, 40, (path, node.name))

    def test_nothing_is_warned_of(self):
        with warnings.catch_warnings():
            warnings.simplefilter("error")
            for path in files():
                compile(path.read_text(), str(path), "exec")

    def test_words_that_do_not_occur(self):
        for path in files():
            for word in re.findall(r"[A-Za-z_]+", path.read_text()):
                self.assertNotIn(word, BARRED, path)

    def test_names(self):
        for path in files():
            for name in names_bound(ast.parse(path.read_text())):
                if name not in ("__init__", "__eq__", "__repr__", "__str__", "__len__"):
                    self.assertRegex(name, r"^[A-Za-z]", path)
                    self.assertFalse(hasattr(builtins, name), (path, name))

    def test_builtins(self):
        for path in files():
            for node in ast.walk(ast.parse(path.read_text())):
                if isinstance(node, ast.Name) and hasattr(builtins, node.id):
                    self.assertIn(node.id, ALLOWED, path)

    def test_methods(self):
        trees = [ast.parse(path.read_text()) for path in files()]
        own = {node.name for tree in trees for node in ast.walk(tree) if isinstance(node, ast.FunctionDef)}
        for tree in trees:
            for node in ast.walk(tree):
                if isinstance(node, ast.Call) and isinstance(node.func, ast.Attribute):
                    self.assertIn(node.func.attr, own | METHODS)

    def test_a_method_is_no_attribute_elsewhere(self):
        trees = [ast.parse(path.read_text()) for path in files()]
        methods, attributes = set(), set()
        for node in [node for tree in trees for node in ast.walk(tree)]:
            if isinstance(node, ast.ClassDef):
                methods.update(row.name for row in node.body if isinstance(row, ast.FunctionDef))
            if isinstance(node, ast.Attribute) and isinstance(node.ctx, ast.Store):
                attributes.add(node.attr)
        self.assertEqual(methods & attributes, set())

    def test_statements_that_are_not_used(self):
        for path in files():
            for node in ast.walk(ast.parse(path.read_text())):
                self.assertNotIsInstance(node, UNUSED, path)
                self.assertFalse(isinstance(node, ast.Constant) and isinstance(node.value, float), path)

    def test_imports_are_from_the_package_only(self):
        for path in files():
            for node in ast.walk(ast.parse(path.read_text())):
                if isinstance(node, ast.ImportFrom):
                    self.assertEqual(node.level, 0, path)
                    self.assertTrue(node.module.startswith("whatnext."), path)

    def test_lists_and_dicts_of_a_module_are_only_read(self):
        for path in files():
            tree = ast.parse(path.read_text())
            kept = (ast.List, ast.Dict)
            names = {row.targets[0].id for row in tree.body if isinstance(row, ast.Assign) and isinstance(row.value, kept)}
            for around in ast.walk(tree):
                for node in ast.iter_child_nodes(around):
                    if isinstance(node, ast.Name) and node.id in names and isinstance(node.ctx, ast.Load):
                        is_method = isinstance(around, ast.Attribute) and around.attr in ("get", "count", "index")
                        is_read = isinstance(around, (ast.Subscript, ast.Compare, ast.For, ast.comprehension))
                        is_copied = is_call_of(around, ("len", "list", "dict", "sorted", "tuple"))
                        self.assertTrue(is_method or is_read or is_copied, (path, node.lineno))

    def test_no_local_name_is_that_of_an_import_or_class(self):
        for path in files():
            tree = ast.parse(path.read_text())
            taken = {name.asname or name.name for row in tree.body if isinstance(row, ast.ImportFrom) for name in row.names}
            taken |= {row.name for row in tree.body if isinstance(row, ast.ClassDef)}
            for node in ast.walk(tree):
                if isinstance(node, ast.arg):
                    self.assertNotIn(node.arg, taken, path)
                if isinstance(node, ast.Name) and isinstance(node.ctx, ast.Store):
                    self.assertNotIn(node.id, taken, path)

    def test_imports_name_the_file_that_defines_the_name(self):
        for path in files():
            for row in ast.parse(path.read_text()).body:
                if isinstance(row, ast.ImportFrom):
                    other = PACKAGE / (row.module.split(".")[1] + ".py")
                    bound = set(names_bound(ast.Module(ast.parse(other.read_text()).body, [])))
                    self.assertLessEqual({name.name for name in row.names}, bound, path)

    def test_no_two_files_import_one_another(self):
        ahead = {}
        for path in files():
            rows = [row for row in ast.parse(path.read_text()).body if isinstance(row, ast.ImportFrom)]
            ahead[path.stem] = {row.module.split(".")[1] for row in rows}
        while ahead:
            free = [stem for stem in ahead if not ahead[stem] & set(ahead)]
            self.assertTrue(free, ahead)
            for stem in free:
                del ahead[stem]

    def test_what_is_iterated_at_once(self):
        takers = ("list", "tuple", "dict", "sorted", "sum", "any", "all", "enumerate", "zip", "min", "max")
        for path, node, around in with_parents():
            is_view = isinstance(node, ast.Call) and isinstance(node.func, ast.Attribute)
            if is_call_of(node, ("zip", "enumerate", "reversed", "range")) or (
                is_view and node.func.attr in ("items", "keys", "values")
            ):
                is_looped = isinstance(around, (ast.For, ast.comprehension)) and around.iter is node
                is_reversed = is_call_of(around, ("reversed",)) and is_call_of(node, ("range",))
                is_tested = isinstance(around, ast.Compare) and node in around.comparators
                self.assertTrue(is_looped or is_reversed or is_tested or is_call_of(around, takers), (path, node.lineno))

    def test_where_sets_stand(self):
        for path, node, around in with_parents():
            if is_call_of(node, ("set",)) or isinstance(node, (ast.Set, ast.SetComp)):
                is_taken = is_call_of(around, ("len", "sorted"))
                is_stored = isinstance(around, ast.Assign) and isinstance(around.targets[0], ast.Name)
                self.assertTrue(is_taken or is_stored or isinstance(around, ast.Compare), (path, node.lineno))

    def test_stars_of_calls(self):
        plain = (ast.Name, ast.Attribute, ast.List, ast.Tuple)
        for path, node, around in with_parents():
            if isinstance(node, ast.Starred) and isinstance(around, ast.Call):
                self.assertIsInstance(node.value, plain, (path, around.lineno))
            self.assertNotIsInstance(node, (ast.GeneratorExp, ast.Yield, ast.YieldFrom), path)

    def test_functions_do_not_call_themselves(self):
        for path in files():
            for node in ast.walk(ast.parse(path.read_text())):
                # An __init__ calls that of a base class, which has its name.
                if isinstance(node, ast.FunctionDef) and node.name != "__init__":
                    called = [one.func for one in ast.walk(node) if isinstance(one, ast.Call)]
                    names = [one.id if isinstance(one, ast.Name) else getattr(one, "attr", None) for one in called]
                    self.assertNotIn(node.name, names, path)

    def test_the_interface_is_defined_where_it_is_listed(self):
        for name, listed in DEFINED.items():
            tree = ast.parse((PACKAGE / name).read_text())
            defined = [node.name for node in tree.body if isinstance(node, (ast.FunctionDef, ast.ClassDef))]
            for each in listed:
                self.assertIn(each, defined, name)


if __name__ == "__main__":
    unittest.main()

"""The form of the package's files: the rules of LANGUAGE.md that can be counted line by line or name by name."""

import ast
import builtins
import pathlib
import re
import unittest
import warnings

FOLDER = pathlib.Path(__file__).resolve().parent.parent / "nightsheld"
FILES = sorted(FOLDER.rglob("*.py"))

ALLOWED_BUILTINS = set(
    "len range enumerate zip min max sum abs sorted reversed int str bool bytes list tuple dict set frozenset "
    "isinstance ord repr any all divmod Exception ValueError TypeError KeyError IndexError LookupError "
    "ZeroDivisionError ArithmeticError OverflowError RuntimeError NotImplementedError AttributeError StopIteration "
    "NotImplemented super property staticmethod classmethod".split()
)

BARRED_WORDS = (
    "type typing typing_extensions enum Enum IntEnum StrEnum Flag IntFlag Generic Protocol ABC ABCMeta namedtuple "
    "NamedTuple TypedDict TYPE_CHECKING abstractmethod"
).split()

ALLOWED_METHODS = re.compile(
    "__(init|eq|repr|str|len|enter|exit|call|iter|lt|le|gt|ge|ne"
    "|[ri]?(add|sub|mul|floordiv|mod|and|or|xor|lshift|rshift)"
    "|i?pow|neg|pos|invert|abs|bool|contains|getitem|setitem)__"
)

# Of these each call is iterated where it stands, by a loop or by one of the others.
ITERATED = {"range", "enumerate", "zip", "reversed", "items", "keys", "values"}
ITERATING = {"list", "tuple", "dict", "sorted", "sum", "any", "all", "enumerate", "zip", "bytes", "min", "max"}

ALLOWED_CALLS = set(
    "append clear copy count endswith extend find get index insert isalnum isalpha isdigit islower isspace isupper "
    "items join keys ljust lower lstrip partition pop remove replace reverse rfind rjust rpartition rsplit rstrip "
    "setdefault split splitlines startswith strip update upper values zfill bit_length".split()
)


def trees():
    for path in FILES:
        yield path.name, ast.parse(path.read_text(encoding="utf-8"))


def nodes(*kinds):
    for name, tree in trees():
        for node in ast.walk(tree):
            if isinstance(node, kinds):
                yield name, node


def bound_names(node):
    """The names that a node gives to something."""
    if isinstance(node, (ast.FunctionDef, ast.ClassDef)):
        return [node.name]
    if isinstance(node, ast.arg):
        return [node.arg]
    if isinstance(node, ast.Attribute):
        return [node.attr]
    if isinstance(node, ast.alias):
        return [node.asname or node.name]
    return [node.id]


def called(node):
    """The name that a call calls, None of what is no call."""
    if not isinstance(node, ast.Call):
        return None
    return node.func.attr if isinstance(node.func, ast.Attribute) else getattr(node.func, "id", None)


def places():
    """Each node of each file with the node around it."""
    for name, tree in trees():
        for around in ast.walk(tree):
            for node in ast.iter_child_nodes(around):
                yield name, around, node


def is_asked_of(around):
    """Whether it asks by `in`, == or != alone."""
    return isinstance(around, ast.Compare) and all(
        isinstance(sign, (ast.In, ast.NotIn, ast.Eq, ast.NotEq)) for sign in around.ops
    )


class TestForm(unittest.TestCase):
    def test_the_folder_has_python_files_with_plain_names_alone(self):
        self.assertTrue((FOLDER / "__init__.py").is_file())
        found = [path for path in FOLDER.rglob("*") if path.is_file() and path.parent.name != "__pycache__"]
        for path in found:
            self.assertRegex(path.name, r"\A([a-z][a-z0-9_]*|__init__|__main__)\.py\Z")

    def test_signs_lines_and_files(self):
        for path in FILES:
            text = path.read_text(encoding="utf-8")
            self.assertRegex(text, r"\A[\n -~]*\Z", path.name)
            self.assertLessEqual(len(text.splitlines()), 400, path.name)
            self.assertLessEqual(max(len(line) for line in text.splitlines()), 120, path.name)

    def test_functions_have_at_most_forty_lines(self):
        for name, node in nodes(ast.FunctionDef):
            self.assertLessEqual(node.end_lineno - node.lineno + 1, 40, (name, node.name))

    def test_imports_name_the_file_that_defines_the_name(self):
        defined = {}
        for path in FILES:
            body = ast.parse(path.read_text(encoding="utf-8")).body
            names = [node.name for node in body if isinstance(node, (ast.FunctionDef, ast.ClassDef))]
            places = [place for node in body if isinstance(node, ast.Assign) for place in node.targets]
            names += [place.id for place in places if isinstance(place, ast.Name)]
            defined["nightsheld." + path.stem] = names
        defined["__future__"] = ["annotations"]
        for name, node in nodes(ast.ImportFrom):
            self.assertEqual(node.level, 0, name)
            for alias in node.names:
                self.assertIn(alias.name, defined.get(node.module, []), (name, node.module))
        self.assertEqual([name for name, node in nodes(ast.Import)], [])

    def test_names_are_plain(self):
        kinds = (ast.FunctionDef, ast.ClassDef, ast.arg, ast.Name, ast.Attribute, ast.alias)
        for name, node in nodes(*kinds):
            for word in bound_names(node):
                if not ALLOWED_METHODS.fullmatch(word):
                    self.assertRegex(word, r"\A[A-Za-z][A-Za-z0-9_]*\Z", name)

    def test_no_other_builtin_is_used(self):
        for name, node in nodes(ast.Name):
            if hasattr(builtins, node.id):
                self.assertIn(node.id, ALLOWED_BUILTINS, name)

    def test_nothing_has_the_name_of_a_builtin_a_class_or_an_import(self):
        for name, tree in trees():
            taken = {alias.name for node in tree.body if isinstance(node, ast.ImportFrom) for alias in node.names}
            taken |= {node.name for node in tree.body if isinstance(node, ast.ClassDef)}
            for node in ast.walk(tree):
                if isinstance(node, ast.arg):
                    word = node.arg
                elif isinstance(node, ast.FunctionDef) and node in tree.body:
                    word = node.name
                elif isinstance(node, ast.Name) and isinstance(node.ctx, ast.Store):
                    word = node.id
                else:
                    continue
                self.assertNotIn(word, taken, name)
                self.assertFalse(hasattr(builtins, word), (name, word))

    def test_module_level_names_are_bound_once(self):
        for name, tree in trees():
            words = []
            for node in tree.body:
                if isinstance(node, ast.ImportFrom):
                    words += [word for alias in node.names for word in bound_names(alias)]
                elif isinstance(node, ast.Assign):
                    words += [word for place in node.targets for word in bound_names(place)]
                elif isinstance(node, (ast.FunctionDef, ast.ClassDef)):
                    words += [node.name]
            self.assertEqual(len(words), len(set(words)), name)

    def test_no_generator_expressions_and_no_sort(self):
        self.assertEqual([name for name, node in nodes(ast.GeneratorExp)], [])
        self.assertEqual([name for name, node in nodes(ast.Attribute) if node.attr == "sort"], [])

    def test_is_stands_beside_none_and_truths_alone(self):
        for name, node in nodes(ast.Compare):
            for sign, thing in zip(node.ops, node.comparators):
                if isinstance(sign, (ast.Is, ast.IsNot)):
                    self.assertIsInstance(thing, ast.Constant, name)
                    self.assertTrue(thing.value is None or isinstance(thing.value, bool), name)

    def test_what_is_iterated_is_iterated_at_once(self):
        for name, around, node in places():
            if called(node) in ITERATED:
                loop = isinstance(around, (ast.For, ast.comprehension)) and around.iter is node
                first = called(around) in ITERATING and around.args[0] is node
                inner = called(around) == "zip" and node in around.args
                self.assertTrue(loop or first or inner, (name, node.lineno))

    def test_sets_are_asked_sorted_or_counted_where_they_are_written(self):
        for name, around, node in places():
            if isinstance(node, (ast.Set, ast.SetComp)) or called(node) == "set":
                counted = called(around) in ("sorted", "len")
                self.assertTrue(counted or is_asked_of(around), (name, node.lineno))
        self.assertEqual([name for name, node in nodes(ast.Call) if called(node) == "frozenset"], [])

    def test_methods_and_attributes_have_names_of_their_own(self):
        methods = {node.name for name, owner in nodes(ast.ClassDef) for node in owner.body
                   if isinstance(node, ast.FunctionDef)}
        stored = {node.attr for name, node in nodes(ast.Attribute) if isinstance(node.ctx, ast.Store)}
        self.assertEqual(methods & stored, set())
        for name, around, node in places():
            if isinstance(node, ast.Attribute):
                is_called = isinstance(around, ast.Call) and around.func is node
                self.assertIn(node.attr, methods | ALLOWED_CALLS if is_called else stored, (name, node.lineno))

    def test_a_length_is_a_length_or_a_number(self):
        for name, node in nodes(ast.FunctionDef):
            if node.name == "__len__":
                for told in ast.walk(node):
                    if isinstance(told, ast.Return):
                        number = isinstance(told.value, ast.Constant) and type(told.value.value) is int
                        self.assertTrue(called(told.value) == "len" or number, name)

    def test_barred_words_stand_nowhere(self):
        whole = re.compile(r"\b(" + "|".join(BARRED_WORDS) + r")\b")
        for path in FILES:
            text = path.read_text(encoding="utf-8")
            self.assertNotRegex(text, whole, path.name)
            self.assertNotRegex(text, "dataclass|overload|contextmanager", path.name)

    def test_no_floats_no_slash_and_no_percent_sign_in_a_string(self):
        for name, node in nodes(ast.Constant):
            self.assertNotIsInstance(node.value, (float, complex), name)
            if isinstance(node.value, str):
                self.assertNotIn("%", node.value, name)
        self.assertEqual([name for name, node in nodes(ast.Div)], [])

    def test_no_statement_beyond_the_subset(self):
        barred = (ast.Global, ast.AsyncFunctionDef, ast.AsyncFor, ast.AsyncWith, ast.Await)
        self.assertEqual([name for name, node in nodes(*barred)], [])

    def test_python_gives_no_warning(self):
        for path in FILES:
            with warnings.catch_warnings():
                warnings.simplefilter("error")
                compile(path.read_text(encoding="utf-8"), str(path), "exec")


if __name__ == "__main__":
    unittest.main()

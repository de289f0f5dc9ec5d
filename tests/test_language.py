"""Rules of ../shared/LANGUAGE.md that a look at the package's files can hold."""

import ast
import builtins
import pathlib
import re
import unittest

PACKAGE = pathlib.Path(__file__).resolve().parent.parent / "systemrounds"
FILES = sorted(PACKAGE.rglob("*.py"))

ALLOWED_NAMES = set(
    "len range enumerate zip min max sum abs sorted reversed int str bool list tuple dict set frozenset isinstance "
    "ord repr any all divmod Exception ValueError TypeError KeyError IndexError LookupError ZeroDivisionError "
    "ArithmeticError OverflowError RuntimeError NotImplementedError AttributeError StopIteration".split())

REFUSED_FORMS = (
    ast.Import, ast.ImportFrom, ast.With, ast.Match, ast.Delete, ast.Global, ast.Nonlocal, ast.Assert, ast.Yield,
    ast.YieldFrom, ast.AsyncFunctionDef, ast.Await, ast.SetComp, ast.DictComp, ast.GeneratorExp, ast.NamedExpr,
    ast.Starred, ast.Div, ast.AnnAssign)


PYTHONS_METHODS = set(
    "append clear copy count endswith extend find get index insert isalnum isalpha isdigit islower isspace isupper "
    "items join keys ljust lower lstrip partition pop remove replace reverse rfind rjust rpartition rsplit rstrip "
    "setdefault split splitlines startswith strip update upper values zfill bit_length".split())

REFUSED_WORDS = set(
    "type typing typing_extensions enum Enum IntEnum StrEnum Flag IntFlag Generic Protocol ABC ABCMeta namedtuple "
    "NamedTuple TypedDict TYPE_CHECKING abstractmethod register mro elements open input version_info".split())

WALKED = ("zip", "enumerate", "reversed", "range", "items", "keys", "values")
WALKERS = ("list", "tuple", "dict", "sorted", "sum", "any", "all", "enumerate", "zip", "min", "max")


def called(node):
    """The plain or dotted name's last word that a call calls."""
    return getattr(node.func, "id", None) or getattr(node.func, "attr", None)


def nodes(kind):
    trees = [(path.name, ast.parse(path.read_text())) for path in FILES]
    return [(name, node) for name, tree in trees for node in ast.walk(tree) if isinstance(node, kind)]


class Language(unittest.TestCase):
    def test_the_folder_holds_its_files_alone(self):
        names = sorted(path.name for path in PACKAGE.iterdir() if path.name != "__pycache__")
        self.assertEqual(names, ["__init__.py", "tick.py"])

    def test_sizes_and_signs(self):
        for path in FILES:
            text = path.read_text()
            self.assertLessEqual(set(text), set(map(chr, range(32, 127))) | {"\n"}, path.name)
            self.assertLessEqual(len(text.splitlines()), 400, path.name)
            self.assertLessEqual(max(map(len, text.splitlines())), 120, path.name)

    def test_functions_are_short_and_plain(self):
        for name, node in nodes(ast.FunctionDef):
            self.assertLessEqual(node.end_lineno - node.lineno + 1, 40, (name, node.name))
            self.assertEqual(node.decorator_list, [], (name, node.name))
            self.assertIsNone(node.args.vararg or node.args.kwarg, (name, node.name))

    def test_nothing_is_imported_and_no_other_form_is_used(self):
        self.assertEqual([(name, node.lineno) for name, node in nodes(REFUSED_FORMS)], [])

    def test_names_of_pythons_own(self):
        for name, node in nodes(ast.Name):
            if hasattr(builtins, node.id):
                self.assertIn(node.id, ALLOWED_NAMES, (name, node.lineno))
                self.assertIsInstance(node.ctx, ast.Load, (name, node.lineno))
        for name, node in nodes(ast.arg):
            self.assertFalse(hasattr(builtins, node.arg), (name, node.lineno))

    def test_methods_are_the_packages_own_or_of_the_list(self):
        own = {node.name for name, node in nodes(ast.FunctionDef)}
        for name, node in nodes(ast.Call):
            if isinstance(node.func, ast.Attribute):
                self.assertIn(node.func.attr, own | PYTHONS_METHODS, (name, node.lineno))

    def test_no_name_is_a_method_and_a_value(self):
        methods = {node.name for name, found in nodes(ast.ClassDef) for node in found.body
                   if isinstance(node, ast.FunctionDef)}
        values = {node.attr for name, node in nodes(ast.Attribute) if isinstance(node.ctx, ast.Store)}
        self.assertEqual(methods & values, set())
        python_has = {word for kind in (str, int, list, dict, set, bytes, tuple) for word in dir(kind)}
        self.assertEqual((methods - {"__init__"} | values) & python_has, set())

    def test_what_is_walked_is_walked_at_once(self):
        walked = set()
        for name, node in nodes((ast.For, ast.comprehension)):
            walked.add((name, ast.dump(node.iter, include_attributes=True)))
        for name, node in nodes(ast.Call):
            if called(node) in WALKERS and node.args:
                walked.add((name, ast.dump(node.args[0], include_attributes=True)))
        for name, node in nodes(ast.Call):
            if called(node) in WALKED:
                self.assertIn((name, ast.dump(node, include_attributes=True)), walked, (name, node.lineno))

    def test_loops_have_no_else_and_assignments_one_target(self):
        for name, node in nodes((ast.For, ast.While)):
            self.assertEqual(node.orelse, [], (name, node.lineno))
        for name, node in nodes(ast.Assign):
            self.assertEqual(len(node.targets), 1, (name, node.lineno))

    def test_comprehensions_have_one_for_and_one_if(self):
        for name, node in nodes(ast.ListComp):
            self.assertEqual(len(node.generators), 1, (name, node.lineno))
            self.assertLessEqual(len(node.generators[0].ifs), 1, (name, node.lineno))

    def test_words_that_stand_nowhere(self):
        for path in FILES:
            self.assertEqual(set(re.findall(r"\w+", path.read_text())) & REFUSED_WORDS, set(), path.name)

    def test_names_begin_with_a_letter(self):
        for name, node in nodes((ast.Name, ast.Attribute, ast.arg)):
            word = getattr(node, "id", None) or getattr(node, "attr", None) or getattr(node, "arg", None)
            self.assertFalse(word.startswith("_"), (name, node.lineno))


if __name__ == "__main__":
    unittest.main()

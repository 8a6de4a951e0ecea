"""The rules of LANGUAGE.md that can be seen in the files of the package by simple means."""

import ast
import builtins
import pathlib
import re
import unittest

PACKAGE = pathlib.Path(__file__).resolve().parent.parent / "paintyard"

# L17: words that do not occur in a file, not even in comments.
BARRED = re.compile(
    r"\b(type|typing|typing_extensions|enum|Enum|IntEnum|StrEnum|Flag|IntFlag|Generic|Protocol|ABC|ABCMeta|namedtuple"
    r"|NamedTuple|TypedDict|TYPE_CHECKING|abstractmethod)\b|dataclass|overload|contextmanager")

# L8 without chr, which L27 removes.
BUILTINS = {
    "len", "range", "enumerate", "zip", "min", "max", "sum", "abs", "sorted", "reversed", "int", "str", "bool", "bytes",
    "list", "tuple", "dict", "set", "frozenset", "isinstance", "ord", "repr", "any", "all", "divmod", "Exception",
    "ValueError", "TypeError", "KeyError", "IndexError", "LookupError", "ZeroDivisionError", "ArithmeticError",
    "OverflowError", "RuntimeError", "NotImplementedError", "AttributeError", "StopIteration", "NotImplemented"}

# L7 takes lists in any, all and the like beside the __eq__ of studios, so generators stand nowhere.
UNUSED = (
    ast.GeneratorExp, ast.Global, ast.AsyncFunctionDef, ast.AsyncFor, ast.AsyncWith, ast.Await, ast.Import, ast.Div,
    ast.Is, ast.IsNot)


def files():
    """Each file of the package with its text."""
    return [(path.name, path.read_text("ascii")) for path in sorted(PACKAGE.glob("*.py"))]


def nodes(text, *kinds):
    """All nodes of these kinds in a text."""
    return [node for node in ast.walk(ast.parse(text)) if isinstance(node, kinds)]


def is_against_plain_value(node):
    """Whether a comparison by is has None, True or False at its right side, as L20 asks."""
    return all(isinstance(side, ast.Constant) and side.value in (None, True, False) for side in node.comparators)


class LanguageTest(unittest.TestCase):
    def test_the_folder_holds_files_alone(self):
        others = [path.name for path in PACKAGE.iterdir() if path.name != "__pycache__"]
        self.assertEqual([name for name in others if not re.fullmatch(r"[a-z0-9_]+\.py", name)], [])
        self.assertIn("__init__.py", others)

    def test_characters_and_sizes(self):
        for name, text in files():
            self.assertTrue(all(sign == "\n" or " " <= sign <= "~" for sign in text), name)
            self.assertLessEqual(len(text.splitlines()), 400, name)
            self.assertLessEqual(max(map(len, text.splitlines())), 120, name)
            for node in nodes(text, ast.FunctionDef):
                self.assertLessEqual(node.end_lineno - node.lineno + 1, 40, (name, node.name))

    def test_barred_words_and_signs(self):
        for name, text in files():
            self.assertIsNone(BARRED.search(text), name)
            for node in nodes(text, ast.Constant):
                self.assertIsInstance(node.value, (int, str, bytes, type(None)), name)
                self.assertFalse(isinstance(node.value, str) and "%" in node.value, name)

    def test_what_is_not_used(self):
        for name, text in files():
            for node in nodes(text, *UNUSED):
                self.assertIn(type(node), (ast.Is, ast.IsNot), name)
            for node in nodes(text, ast.Compare):
                if any(isinstance(sign, (ast.Is, ast.IsNot)) for sign in node.ops):
                    self.assertTrue(is_against_plain_value(node), name)

    def test_imports_name_their_files(self):
        known = {path.stem for path in PACKAGE.glob("*.py")}
        for name, text in files():
            for node in nodes(text, ast.ImportFrom):
                folder, dot, stem = node.module.partition(".")
                self.assertEqual((node.level, folder, stem in known), (0, "paintyard", True), name)
                made = ast.parse((PACKAGE / f"{stem}.py").read_text("ascii")).body
                defined = {one.name for one in made if isinstance(one, (ast.FunctionDef, ast.ClassDef))}
                defined |= {one.targets[0].id for one in made if isinstance(one, ast.Assign)}
                self.assertLessEqual({alias.name for alias in node.names}, defined, name)

    def test_names(self):
        for name, text in files():
            imported = {alias.asname or alias.name for node in nodes(text, ast.ImportFrom) for alias in node.names}
            taken = imported | {node.name for node in nodes(text, ast.ClassDef)} | set(dir(builtins))
            bound = [node.id for node in nodes(text, ast.Name) if isinstance(node.ctx, ast.Store)]
            for found in bound + [node.arg for node in nodes(text, ast.arg)]:
                self.assertFalse(found.startswith("_"), (name, found))
                self.assertNotIn(found, taken, name)
            for node in nodes(text, ast.Name):
                if isinstance(node.ctx, ast.Load) and node.id in dir(builtins):
                    self.assertIn(node.id, BUILTINS, name)

    def test_values_at_module_level_are_plain(self):
        for name, text in files():
            defined = set()
            for node in ast.parse(text).body:
                if isinstance(node, ast.FunctionDef):
                    defined.add(node.name)
                elif isinstance(node, ast.Assign):
                    inner = [one for one in ast.walk(node.value) if not isinstance(one, (ast.Constant, ast.Load))]
                    kinds = (ast.Tuple, ast.List, ast.Dict, ast.Name)
                    self.assertTrue(all(isinstance(one, kinds) for one in inner), name)
                    self.assertLessEqual({one.id for one in inner if isinstance(one, ast.Name)}, defined, name)
                else:
                    self.assertIsInstance(node, (ast.Expr, ast.ImportFrom, ast.ClassDef), name)

    def test_what_is_iterated_at_once_is_not_stored(self):
        for name, text in files():
            for node in nodes(text, ast.Assign, ast.Return):
                if isinstance(node.value, ast.Call):
                    called = node.value.func
                    word = called.id if isinstance(called, ast.Name) else called.attr
                    self.assertNotIn(word, ("zip", "enumerate", "reversed", "range", "items", "keys", "values"), name)

    def test_methods_and_attributes(self):
        methods, attributes = set(), set()
        for name, text in files():
            for node in nodes(text, ast.ClassDef):
                methods |= {one.name for one in node.body if isinstance(one, ast.FunctionDef)}
            attributes |= {node.attr for node in nodes(text, ast.Attribute) if isinstance(node.ctx, ast.Store)}
        self.assertIn("add", methods)
        self.assertEqual(methods & attributes, set())
        dunders = {"__init__", "__len__", "__str__", "__eq__"}
        self.assertEqual({name for name in methods if name.startswith("_")}, dunders)

    def test_nothing_imported_is_left_unused(self):
        for name, text in files():
            used = {node.id for node in nodes(text, ast.Name)}
            for node in nodes(text, ast.ImportFrom):
                self.assertLessEqual({alias.asname or alias.name for alias in node.names}, used, name)


if __name__ == "__main__":
    unittest.main()

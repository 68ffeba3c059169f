"""The package keeps to those rules of the language that are easily seen in its text."""

import ast
import builtins
import pathlib
import re
import unittest

PACKAGE = pathlib.Path(__file__).resolve().parent.parent / "boxwitness"
FILES = sorted(PACKAGE.glob("*.py"))

BUILTINS = set(
    "len range enumerate zip min max sum abs sorted reversed int str bool list tuple dict set isinstance ord repr"
    " any all divmod iter next Exception ValueError KeyError IndexError LookupError ZeroDivisionError".split()
)
METHODS = set(
    "append clear copy count endswith extend find get index insert items join keys lower lstrip partition pop remove"
    " replace reverse rfind rstrip setdefault split splitlines startswith strip update upper values add discard".split()
)
BARRED = (
    "type typing typing_extensions enum Enum IntEnum StrEnum Flag IntFlag Generic Protocol ABC ABCMeta namedtuple"
    " NamedTuple TypedDict TYPE_CHECKING abstractmethod register mro elements open input version_info"
).split()
STATEMENTS = (ast.Global, ast.AsyncFunctionDef, ast.AsyncFor, ast.AsyncWith, ast.Import, ast.Await)


def trees():
    return [(path, ast.parse(path.read_text(encoding="utf-8"))) for path in FILES]


class Language(unittest.TestCase):
    def test_files(self):
        others = [path.name for path in PACKAGE.iterdir() if path.name != "__pycache__" and path not in FILES]
        self.assertEqual(others, [])
        for path in FILES:
            self.assertRegex(path.name, r"^(__init__|[a-z][a-z0-9_]*)\.py$")

    def test_characters_words_and_lengths(self):
        for path in FILES:
            text = path.read_text(encoding="utf-8")
            lines = text.split("\n")
            self.assertLessEqual(len(lines), 400, path.name)
            self.assertLessEqual(max(len(line) for line in lines), 120, path.name)
            self.assertRegex(text, r"^[ -~\n]*$")
            for word in BARRED:
                self.assertIsNone(re.search(rf"\b{word}\b", text), (path.name, word))

    def test_functions_are_short(self):
        for path, tree in trees():
            for node in ast.walk(tree):
                if isinstance(node, ast.FunctionDef):
                    self.assertLessEqual(node.end_lineno - node.lineno + 1, 40, (path.name, node.name))

    def test_imports(self):
        for path, tree in trees():
            for node in ast.walk(tree):
                self.assertNotIsInstance(node, STATEMENTS, path.name)
                if isinstance(node, ast.ImportFrom):
                    self.assertIn(node, tree.body)
                    self.assertEqual((node.level, node.module.split(".")[0]), (0, "boxwitness"))
                    self.assertTrue((PACKAGE / (node.module.split(".")[1] + ".py")).exists())

    def test_module_level(self):
        kinds = (ast.ImportFrom, ast.FunctionDef, ast.ClassDef, ast.Assign)
        for path, tree in trees():
            self.assertIsNotNone(ast.get_docstring(tree), path.name)
            for node in tree.body[1:]:
                self.assertIsInstance(node, kinds, path.name)

    def test_names(self):
        known = set(dir(builtins))
        for path, tree in trees():
            for node in ast.walk(tree):
                if isinstance(node, ast.Name):
                    self.assertFalse(node.id.startswith("_"), (path.name, node.id))
                    if node.id in known:
                        self.assertIn(node.id, BUILTINS, path.name)
                        self.assertIsInstance(node.ctx, ast.Load, (path.name, node.id))
                if isinstance(node, ast.arg):
                    self.assertNotIn(node.arg, known, path.name)

    def test_no_local_name_is_an_import_or_a_class(self):
        for path, tree in trees():
            taken = {alias.name for node in tree.body if isinstance(node, ast.ImportFrom) for alias in node.names}
            taken |= {node.name for node in tree.body if isinstance(node, ast.ClassDef)}
            for node in ast.walk(tree):
                if isinstance(node, ast.Name) and isinstance(node.ctx, ast.Store):
                    self.assertNotIn(node.id, taken, path.name)
                if isinstance(node, ast.arg):
                    self.assertNotIn(node.arg, taken, path.name)

    def test_methods_and_attributes_are_apart(self):
        methods = set()
        stored = set()
        for path, tree in trees():
            for node in ast.walk(tree):
                if isinstance(node, ast.ClassDef):
                    methods |= {one.name for one in node.body if isinstance(one, ast.FunctionDef)}
                if isinstance(node, ast.Attribute) and isinstance(node.ctx, ast.Store):
                    stored.add(node.attr)
        self.assertEqual(methods & stored, set())
        for path, tree in trees():
            for node in ast.walk(tree):
                if isinstance(node, ast.Attribute):
                    self.assertIn(node.attr, methods | stored | METHODS, path.name)

    def test_values(self):
        for path, tree in trees():
            for node in ast.walk(tree):
                self.assertNotIsInstance(node, ast.Div, path.name)
                if isinstance(node, ast.Constant):
                    self.assertNotIsInstance(node.value, (float, complex), path.name)
                    if isinstance(node.value, str):
                        self.assertNotIn("%", node.value, path.name)
                if isinstance(node, ast.Compare):
                    for sign, right in zip(node.ops, node.comparators):
                        if isinstance(sign, (ast.Is, ast.IsNot)):
                            self.assertIn(ast.dump(right), [ast.dump(ast.Constant(v)) for v in (None, True, False)])


class Interface(unittest.TestCase):
    def test_names_and_arguments(self):
        told = {}
        for path, tree in trees():
            for node in tree.body:
                if isinstance(node, ast.FunctionDef):
                    told[path.stem, node.name] = [arg.arg for arg in node.args.args]
        self.assertEqual(told["runs", "run"], ["program", "given", "fuel"])
        self.assertEqual(told["runs", "run_boxes"], ["program", "frame", "choice", "given", "fuel", "junk"])
        self.assertEqual(told["marks", "walk"], ["program", "frame", "choice", "ways"])
        self.assertEqual(told["papers", "paper"], ["program", "frame", "choice"])
        self.assertEqual(told["papers", "shows"], ["program", "frame", "choice", "told"])
        self.assertEqual(told["checking", "checked"], ["program", "frame", "choice"])
        self.assertEqual(told["mends", "made"], ["program", "frame"])
        self.assertEqual(told["mends", "least"], ["program", "frame", "choice", "most"])
        self.assertEqual(told["mends", "renumbered"], ["program", "frame", "choice", "order"])
        self.assertEqual(told["notes", "written"], ["program"])
        self.assertEqual(told["notes", "written_choice"], ["program", "frame", "choice"])
        self.assertEqual(told["notes", "read"], ["text"])
        self.assertEqual(told["notes", "read_choice"], ["program", "frame", "text"])

    def test_methods_stand_in_the_class_itself(self):
        tree = ast.parse((PACKAGE / "keeping.py").read_text(encoding="utf-8"))
        witness = next(node for node in tree.body if isinstance(node, ast.ClassDef) and node.name == "Witness")
        told = {one.name: [arg.arg for arg in one.args.args] for one in witness.body if isinstance(one, ast.FunctionDef)}
        self.assertEqual(told["__init__"], ["self", "program", "frame", "choice"])
        self.assertEqual(told["change"], ["self", "number", "group"])
        for name in ("choice", "paper", "verdict"):
            self.assertEqual(told[name], ["self"])


if __name__ == "__main__":
    unittest.main()

"""The files of the package: those rules of the Python subset that can be seen in a file by itself, and the README."""

import ast
import builtins
import doctest
import pathlib
import unittest

ROOT = pathlib.Path(__file__).resolve().parent.parent
PACKAGE = ROOT / "cavesweep"
FILES = sorted(PACKAGE.glob("*.py"))
TREES = {path.stem: ast.parse(path.read_text()) for path in FILES}

BUILTINS = set(
    "len range enumerate zip min max sum abs sorted reversed int str bool bytes list tuple dict set isinstance ord repr any "
    "all divmod pow super property type ValueError None True False".split())
METHODS = set(
    "append clear copy count endswith extend find get index insert isalnum isalpha isdigit islower isspace isupper items join "
    "keys ljust lower lstrip partition pop remove replace reverse rfind rjust rpartition rsplit rstrip setdefault split "
    "splitlines startswith strip update upper values zfill bit_length isdecimal __init__".split())
BARRED = set(
    "register mro elements open input law version_info breakpoint builtins compile copyright credits delattr dir eval exec "
    "exit gc getattr globals hasattr help id importlib license locals os quit setattr vars sys".split())
STATEMENTS = (ast.AsyncFunctionDef, ast.AsyncFor, ast.AsyncWith, ast.Global, ast.Import, ast.Lambda, ast.Yield, ast.YieldFrom)


def functions(tree):
    return [node for node in ast.walk(tree) if isinstance(node, ast.FunctionDef)]


class Language(unittest.TestCase):
    def nodes(self, *kinds):
        for name, tree in TREES.items():
            for node in ast.walk(tree):
                if isinstance(node, kinds):
                    yield f"{name}.py:{getattr(node, 'lineno', 0)}", node

    def test_files(self):
        for path in PACKAGE.iterdir():
            if path.name != "__pycache__":
                self.assertEqual(path.suffix, ".py")
                self.assertEqual(path.name, path.name.lower())

    def test_sizes_and_characters(self):
        for path in FILES:
            text = path.read_text(encoding="utf-8")
            self.assertTrue(all(sign == "\n" or " " <= sign <= "~" for sign in text), path.name)
            lines = text.split("\n")
            self.assertLessEqual(len(lines), 399, path.name)
            self.assertLessEqual(max(map(len, lines)), 120, path.name)
            for function in functions(TREES[path.stem]):
                self.assertLessEqual(function.end_lineno - function.lineno + 1, 40, function.name)

    def test_imports(self):
        for name, tree in TREES.items():
            for node in tree.body:
                if isinstance(node, ast.ImportFrom):
                    package, _, file = node.module.partition(".")
                    self.assertEqual((package, node.level), ("cavesweep", 0), name)
                    defined = {part.name for part in TREES[file].body if hasattr(part, "name")}
                    for alias in node.names:
                        self.assertIsNone(alias.asname)
                        self.assertIn(alias.name, defined)

    def test_no_circle_of_imports(self):
        needs = {
            name: {node.module.partition(".")[2] for node in tree.body if isinstance(node, ast.ImportFrom)}
            for name, tree in TREES.items()}
        while needs:
            free = [name for name in needs if not needs[name] & set(needs)]
            self.assertTrue(free, needs)
            for name in free:
                del needs[name]

    def test_module_level(self):
        for name, tree in TREES.items():
            for node in tree.body[1:]:
                self.assertIsInstance(node, (ast.ImportFrom, ast.FunctionDef, ast.ClassDef, ast.Assign), name)
            self.assertTrue(ast.get_docstring(tree), name)
        self.assertEqual(len(TREES["__init__"].body), 1)

    def test_every_function_says_what_it_does(self):
        for place, node in self.nodes(ast.FunctionDef, ast.ClassDef):
            if node.name != "__init__":
                self.assertTrue(ast.get_docstring(node), place)

    def test_statements_and_values(self):
        for place, node in self.nodes(*STATEMENTS):
            self.fail(f"{place}: {type(node).__name__}")
        for place, node in self.nodes(ast.Div):
            self.fail(place)
        for place, node in self.nodes(ast.Constant):
            self.assertNotIsInstance(node.value, (float, complex, bytes), place)
            if isinstance(node.value, str):
                self.assertNotIn("%", node.value, place)

    def test_is(self):
        for place, node in self.nodes(ast.Compare):
            for sign, side in zip(node.ops, node.comparators):
                if isinstance(sign, (ast.Is, ast.IsNot)):
                    plain = isinstance(side, ast.Constant) and side.value in (None, True, False)
                    kind = isinstance(node.left, ast.Call) and getattr(node.left.func, "id", "") == "type"
                    self.assertTrue(plain or kind, place)

    def test_builtins(self):
        for place, node in self.nodes(ast.Name):
            self.assertNotIn(node.id, BARRED, place)
            if node.id == "_":
                # Nothing but what is not read; and doctest leaves a builtin of this name behind.
                self.assertIsInstance(node.ctx, ast.Store, place)
            elif hasattr(builtins, node.id):
                self.assertIn(node.id, BUILTINS, place)
                self.assertIsInstance(node.ctx, ast.Load, place)
        for place, node in self.nodes(ast.arg):
            self.assertFalse(hasattr(builtins, node.arg), place)

    def test_methods(self):
        own = {node.name for _, node in self.nodes(ast.FunctionDef)}
        for place, node in self.nodes(ast.Call):
            if isinstance(node.func, ast.Attribute):
                self.assertIn(node.func.attr, METHODS | own, place)

    def test_names_of_imports_are_not_bound_again(self):
        for name, tree in TREES.items():
            taken = {alias.name for node in tree.body if isinstance(node, ast.ImportFrom) for alias in node.names}
            taken |= {node.name for node in tree.body if isinstance(node, ast.ClassDef)}
            for node in ast.walk(tree):
                bound = node.arg if isinstance(node, ast.arg) else None
                if isinstance(node, ast.Name) and isinstance(node.ctx, ast.Store):
                    bound = node.id
                self.assertNotIn(bound, taken, name)

    def test_readme(self):
        outcome = doctest.testfile(str(ROOT / "README.md"), module_relative=False, parser=Fenced())
        self.assertGreater(outcome.attempted, 5)
        self.assertEqual(outcome.failed, 0)


class Fenced(doctest.DocTestParser):
    """The examples of a text whose code stands between fences."""

    def parse(self, string, name="<string>"):
        return super().parse(string.replace("```", ""), name)


if __name__ == "__main__":
    unittest.main()

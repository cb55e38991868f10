"""Some of the rules for the package's files that can be checked by looking at them."""

import ast
import builtins
import pathlib
import unittest

PACKAGE = pathlib.Path(__file__).resolve().parent.parent / "fieldtable"
FILES = sorted(PACKAGE.rglob("*.py"))
BUILTINS = set(
    "len range enumerate zip min max sum abs sorted reversed int str bool bytes list tuple dict set frozenset isinstance "
    "ord repr any all divmod pow getattr hasattr setattr iter next map type object super property staticmethod classmethod "
    "Exception ValueError TypeError KeyError IndexError LookupError ZeroDivisionError ArithmeticError OverflowError "
    "RuntimeError NotImplementedError AttributeError StopIteration NotImplemented".split()
)
BARRED = (
    ast.AsyncFunctionDef, ast.AsyncFor, ast.AsyncWith, ast.Await, ast.Import, ast.Div, ast.MatMult, ast.MatchMapping,
)
# The methods of lists, dicts and strings that the package uses.
OF_VALUES = {"append", "extend", "get", "items", "values", "__init__"}
BARRED_ATTRIBUTES = set(
    "items keys values pop update append clear extend insert remove reverse setdefault sort args encode decode hex "
    "fromhex format mro elements open input law add_note".split()
)


class LanguageTest(unittest.TestCase):
    def trees(self):
        for file in FILES:
            yield file.name, ast.parse(file.read_text(encoding="ascii"))

    def test_the_folder_holds_only_plain_files(self):
        there = [path for path in PACKAGE.rglob("*") if "__pycache__" not in path.parts]
        self.assertEqual(sorted(there), FILES)
        self.assertIn("__init__.py", [file.name for file in FILES])

    def test_sizes_and_characters(self):
        for file in FILES:
            text = file.read_text(encoding="ascii")
            lines = text.split("\n")
            with self.subTest(file=file.name):
                self.assertLessEqual(len(lines), 400)
                self.assertLessEqual(max(len(line) for line in lines), 120)
                self.assertTrue(all(character == "\n" or " " <= character <= "~" for character in text))

    def test_functions_have_at_most_forty_lines(self):
        for name, tree in self.trees():
            for node in ast.walk(tree):
                if isinstance(node, ast.FunctionDef):
                    with self.subTest(file=name, function=node.name):
                        self.assertLessEqual(node.end_lineno - node.lineno + 1, 40)

    def test_imports_are_from_the_very_file_that_defines_the_name(self):
        defined = {}
        for name, tree in self.trees():
            defined["fieldtable." + name[:-3]] = {
                getattr(node, "name", None) or node.targets[0].id
                for node in tree.body if isinstance(node, (ast.FunctionDef, ast.ClassDef, ast.Assign))
            }
        for name, tree in self.trees():
            for node in ast.walk(tree):
                if isinstance(node, ast.ImportFrom):
                    for alias in node.names:
                        with self.subTest(file=name, name=alias.name):
                            self.assertEqual((node.level, alias.asname), (0, None))
                            self.assertIn(alias.name, defined[node.module])

    def test_only_known_names_are_used(self):
        for name, tree in self.trees():
            bound = set(BUILTINS)
            for node in ast.walk(tree):
                if isinstance(node, (ast.FunctionDef, ast.ClassDef, ast.alias)):
                    bound.add(node.name)
                elif isinstance(node, ast.arg):
                    bound.add(node.arg)
                elif isinstance(node, ast.ExceptHandler):
                    bound.add(node.name)
                elif isinstance(node, ast.Name) and isinstance(node.ctx, ast.Store):
                    bound.add(node.id)
            for node in ast.walk(tree):
                if isinstance(node, ast.Name):
                    with self.subTest(file=name, line=node.lineno):
                        self.assertIn(node.id, bound)
                        self.assertFalse(node.id.startswith("__"))

    def test_no_name_means_two_things(self):
        for name, tree in self.trees():
            taken = set(dir(builtins)) - {"_"}
            for node in tree.body:
                if isinstance(node, ast.ImportFrom):
                    taken.update(alias.name for alias in node.names)
                elif isinstance(node, ast.ClassDef):
                    taken.add(node.name)
            bound = {node.arg for node in ast.walk(tree) if isinstance(node, ast.arg)}
            for node in ast.walk(tree):
                if isinstance(node, ast.Name) and isinstance(node.ctx, ast.Store):
                    bound.add(node.id)
            with self.subTest(file=name):
                self.assertEqual(bound & taken, set())

    def test_no_name_is_a_method_and_an_attribute(self):
        methods, attributes, read = set(), set(), set()
        for _, tree in self.trees():
            for node in ast.walk(tree):
                if isinstance(node, ast.ClassDef):
                    methods.update(part.name for part in node.body if isinstance(part, ast.FunctionDef))
                elif isinstance(node, ast.Attribute) and isinstance(node.ctx, ast.Store):
                    attributes.add(node.attr)
                elif isinstance(node, ast.Attribute):
                    read.add(node.attr)
        self.assertEqual(methods & attributes, set())
        self.assertEqual(read - methods - attributes - OF_VALUES, set())
        self.assertEqual(attributes & BARRED_ATTRIBUTES, set())

    def test_modules_do_not_import_each_other(self):
        imports = {}
        for name, tree in self.trees():
            imports["fieldtable." + name[:-3]] = {node.module for node in ast.walk(tree) if isinstance(node, ast.ImportFrom)}
        left = dict(imports)
        while left:
            free = [module for module in left if not left[module] & set(left)]
            self.assertNotEqual(free, [], left)
            left = {module: left[module] for module in left if module not in free}

    def test_no_kind_of_code_is_used_that_is_barred_everywhere(self):
        for name, tree in self.trees():
            for node in ast.walk(tree):
                with self.subTest(file=name, line=getattr(node, "lineno", 0)):
                    self.assertNotIsInstance(node, BARRED)
                    if isinstance(node, ast.Constant):
                        self.assertNotIsInstance(node.value, (float, complex))


if __name__ == "__main__":
    unittest.main()

"""Some rules of ../shared/LANGUAGE.md that can be seen from the files of the package alone."""

import ast
import builtins
import pathlib
import re
import unittest

PACKAGE = pathlib.Path(__file__).resolve().parent.parent / "rigeyes"
FILES = sorted(PACKAGE.glob("*.py"))
BARRED_WORDS = (
    "type typing typing_extensions enum Enum IntEnum StrEnum Flag IntFlag Generic Protocol ABC ABCMeta"
    " namedtuple NamedTuple TypedDict TYPE_CHECKING abstractmethod"
).split()
BARRED_PARTS = ("dataclass", "overload", "contextmanager")
ALLOWED_BUILTINS = (
    "len range enumerate zip min max sum abs sorted reversed int str bool bytes list tuple dict set isinstance ord"
    " repr any all divmod ValueError"
).split()
BARRED_NODES = (ast.Div, ast.Global, ast.Import, ast.AsyncFunctionDef, ast.Await)
ALLOWED_METHODS = "append items setdefault update add".split()
ALLOWED_DOUBLES = "__init__ __eq__ __len__".split()


class Language(unittest.TestCase):
    def each(self):
        for path in FILES:
            yield path.name, path.read_text(encoding="utf-8")

    def nodes(self):
        for name, text in self.each():
            for node in ast.walk(ast.parse(text)):
                yield name, node

    def test_the_folder_has_nothing_but_files_of_the_package(self):
        self.assertIn("__init__.py", [path.name for path in FILES])
        for path in PACKAGE.iterdir():
            if path.name != "__pycache__":
                self.assertRegex(path.name, r"^(__init__|[a-z][a-z0-9_]*)\.py$")

    def test_characters_and_sizes(self):
        for name, text in self.each():
            self.assertTrue(re.fullmatch(r"[ -~\n]*", text), name)
            rows = text.split("\n")
            self.assertLessEqual(len(rows), 400, name)
            self.assertLessEqual(max(map(len, rows)), 120, name)

    def test_functions_are_short(self):
        for name, node in self.nodes():
            if isinstance(node, ast.FunctionDef):
                self.assertLessEqual(node.end_lineno - node.lineno + 1, 40, (name, node.name))

    def test_barred_words(self):
        for name, text in self.each():
            found = set(re.findall(r"[A-Za-z0-9_]+", text))
            self.assertEqual(found & set(BARRED_WORDS), set(), name)
            for part in BARRED_PARTS:
                self.assertNotIn(part, text, name)

    def test_imports_are_from_the_package(self):
        for name, node in self.nodes():
            if isinstance(node, ast.ImportFrom):
                self.assertEqual(node.level, 0, name)
                self.assertRegex(node.module, r"^(rigeyes\.[a-z_]+|__future__)$", name)

    def test_no_barred_statements_and_no_floats(self):
        for name, node in self.nodes():
            self.assertNotIsInstance(node, BARRED_NODES, name)
            if isinstance(node, ast.Constant):
                self.assertNotIsInstance(node.value, (float, complex), name)

    def test_names_do_not_begin_with_an_underscore_or_hide_a_builtin(self):
        for name, node in self.nodes():
            bound = []
            if isinstance(node, ast.Name) and isinstance(node.ctx, ast.Store):
                bound = [node.id]
            if isinstance(node, ast.arg):
                bound = [node.arg]
            for each in bound:
                self.assertFalse(each.startswith("_"), (name, each))
                self.assertFalse(hasattr(builtins, each), (name, each))

    def test_no_other_builtins_are_used(self):
        for name, node in self.nodes():
            if isinstance(node, ast.Name) and hasattr(builtins, node.id):
                self.assertIn(node.id, ALLOWED_BUILTINS, name)

    def test_no_generators_where_lists_are_due(self):
        for name, node in self.nodes():
            self.assertNotIsInstance(node, ast.GeneratorExp, name)

    def test_is_stands_beside_none_alone(self):
        for name, node in self.nodes():
            if isinstance(node, ast.Compare):
                for sign, other in zip(node.ops, node.comparators):
                    if isinstance(sign, (ast.Is, ast.IsNot)):
                        self.assertIsInstance(other, ast.Constant, name)
                        self.assertIn(other.value, (None, True, False), name)

    def test_imports_name_the_very_file_and_are_used(self):
        for name, text in self.each():
            module = ast.parse(text)
            read = {node.id for node in ast.walk(module) if isinstance(node, ast.Name)}
            for node in module.body:
                if isinstance(node, ast.ImportFrom):
                    other = ast.parse((PACKAGE / (node.module.split(".")[1] + ".py")).read_text(encoding="utf-8"))
                    there = {each.name for each in other.body if isinstance(each, (ast.FunctionDef, ast.ClassDef))}
                    for each in node.names:
                        self.assertIsNone(each.asname, name)
                        self.assertIn(each.name, there, name)
                        self.assertIn(each.name, read, name)

    def test_no_local_name_is_that_of_an_import_a_class_or_a_function(self):
        for name, text in self.each():
            module = ast.parse(text)
            kinds = (ast.FunctionDef, ast.ClassDef)
            taken = {each.name for each in module.body if isinstance(each, kinds)}
            taken |= {each.name for node in module.body if isinstance(node, ast.ImportFrom) for each in node.names}
            for node in ast.walk(module):
                if isinstance(node, ast.arg):
                    self.assertNotIn(node.arg, taken, name)
                if isinstance(node, ast.Name) and isinstance(node.ctx, ast.Store):
                    self.assertNotIn(node.id, taken, name)

    def test_methods_that_are_called_and_defined(self):
        own = [each for name, node in self.nodes() if isinstance(node, ast.ClassDef) for each in node.body
               if isinstance(each, ast.FunctionDef)]
        for each in own:
            self.assertEqual(each.decorator_list, [])
            if each.name.startswith("_"):
                self.assertIn(each.name, ALLOWED_DOUBLES)
        names = [each.name for each in own] + ALLOWED_METHODS
        for name, node in self.nodes():
            if isinstance(node, ast.Call) and isinstance(node.func, ast.Attribute):
                self.assertIn(node.func.attr, names, name)

    def test_no_name_is_both_a_method_and_an_attribute(self):
        methods = {each.name for name, node in self.nodes() if isinstance(node, ast.ClassDef) for each in node.body
                   if isinstance(each, ast.FunctionDef)}
        stored = {node.attr for name, node in self.nodes()
                  if isinstance(node, ast.Attribute) and isinstance(node.ctx, ast.Store)}
        self.assertEqual(methods & stored, set())

    def test_strings_have_no_percent_sign(self):
        for name, node in self.nodes():
            if isinstance(node, ast.Constant) and isinstance(node.value, str):
                self.assertNotIn("%", node.value, name)


if __name__ == "__main__":
    unittest.main()

"""Those rules of LANGUAGE.md that can be seen without running the package."""

import ast
import builtins
import pathlib
import re
import unittest

FOLDER = pathlib.Path(__file__).resolve().parent.parent / "headerfold"
FILES = sorted(FOLDER.glob("*.py"))
BUILTINS = set("""len range enumerate zip min max sum abs sorted reversed int str bool list tuple dict set frozenset
    isinstance ord repr any all divmod pow property classmethod staticmethod super
    Exception ValueError TypeError KeyError IndexError LookupError RuntimeError NotImplemented""".split())
SPECIAL = set("""__init__ __eq__ __repr__ __str__ __len__ __enter__ __exit__ __call__ __iter__ __add__ __sub__
    __bool__ __contains__ __getitem__""".split())
WORDS_NOT_USED = """type typing typing_extensions enum Enum IntEnum StrEnum Flag IntFlag Generic Protocol ABC ABCMeta
    namedtuple NamedTuple TypedDict TYPE_CHECKING abstractmethod""".split()
STATEMENTS_NOT_USED = (ast.AsyncFunctionDef, ast.AsyncFor, ast.AsyncWith, ast.Import)


def trees():
    for file in FILES:
        yield file, ast.parse(file.read_text())


def nodes():
    for file, tree in trees():
        for node in ast.walk(tree):
            yield file, node


def docstrings(tree):
    for node in ast.walk(tree):
        if isinstance(node, (ast.Module, ast.ClassDef, ast.FunctionDef)) and ast.get_docstring(node) is not None:
            yield node.body[0].value


class Files(unittest.TestCase):
    def test_only_files_of_python(self):
        others = [one.name for one in FOLDER.iterdir() if one.suffix != ".py" and one.name != "__pycache__"]
        self.assertEqual(others, [])
        self.assertIn("__init__.py", [one.name for one in FILES])

    def test_sizes_and_characters(self):
        for file in FILES:
            lines = file.read_text().split("\n")
            self.assertLessEqual(len(lines), 399, file)
            for line in lines:
                self.assertLessEqual(len(line), 120, file)
                self.assertTrue(all(" " <= one <= "~" for one in line), line)

    def test_functions_are_small(self):
        for file, node in nodes():
            if isinstance(node, ast.FunctionDef):
                self.assertLessEqual(node.end_lineno - node.lineno + 1, 40, node.name)


class Modules(unittest.TestCase):
    def test_imports_name_the_file_that_defines(self):
        defined = {}
        for file, tree in trees():
            names = {node.name for node in tree.body if isinstance(node, (ast.FunctionDef, ast.ClassDef))}
            names |= {node.targets[0].id for node in tree.body if isinstance(node, ast.Assign)}
            defined["headerfold." + file.stem] = names
        for file, node in nodes():
            if isinstance(node, ast.ImportFrom):
                self.assertIn(node.module, defined, file)
                for one in node.names:
                    self.assertIn(one.name, defined[node.module], file)
                    self.assertIsNone(one.asname)

    def test_plain_values_at_module_level(self):
        for file, tree in trees():
            for node in tree.body[1:]:
                if isinstance(node, ast.Assign):
                    ast.literal_eval(node.value)
                else:
                    self.assertIsInstance(node, (ast.ImportFrom, ast.FunctionDef, ast.ClassDef), file)

    def test_every_import_is_used(self):
        for file, tree in trees():
            names = [node.id for node in ast.walk(tree) if isinstance(node, ast.Name)]
            for node in tree.body:
                if isinstance(node, ast.ImportFrom):
                    for one in node.names:
                        self.assertIn(one.name, names, file)


class Names(unittest.TestCase):
    def functions(self):
        return [node for _, node in nodes() if isinstance(node, ast.FunctionDef)]

    def test_generators_have_names_of_their_own(self):
        names = [node.name for node in self.functions()]
        for node in self.functions():
            if any(isinstance(one, (ast.Yield, ast.YieldFrom)) for one in ast.walk(node)):
                self.assertEqual(names.count(node.name), 1, node.name)

    def test_variables_have_names_of_their_own(self):
        for file, tree in trees():
            taken = {node.name for node in tree.body if isinstance(node, (ast.FunctionDef, ast.ClassDef))}
            for node in tree.body:
                if isinstance(node, ast.ImportFrom):
                    taken |= {one.name for one in node.names}
            for node in ast.walk(tree):
                if isinstance(node, ast.arg):
                    self.assertNotIn(node.arg, taken, file)
                if isinstance(node, ast.Name) and isinstance(node.ctx, ast.Store):
                    self.assertNotIn(node.id, taken, file)

    def test_no_method_has_the_name_of_an_attribute(self):
        attributes = {node.attr for _, node in nodes() if isinstance(node, ast.Attribute)
                      and isinstance(node.ctx, ast.Store)}
        for _, node in nodes():
            if isinstance(node, ast.ClassDef):
                methods = {one.name for one in node.body if isinstance(one, ast.FunctionDef)}
                self.assertEqual(methods & attributes, set(), node.name)


class Words(unittest.TestCase):
    def test_builtins(self):
        for file, node in nodes():
            if isinstance(node, ast.Name) and hasattr(builtins, node.id):
                self.assertIn(node.id, BUILTINS, file)
                self.assertIsInstance(node.ctx, ast.Load, file)

    def test_parameters_are_no_builtins(self):
        for file, node in nodes():
            if isinstance(node, ast.arg):
                self.assertFalse(hasattr(builtins, node.arg), node.arg)

    def test_special_methods(self):
        for file, node in nodes():
            if isinstance(node, ast.FunctionDef) and node.name.startswith("__"):
                self.assertIn(node.name, SPECIAL, file)

    def test_statements(self):
        for file, node in nodes():
            self.assertNotIsInstance(node, STATEMENTS_NOT_USED, file)
            if isinstance(node, ast.Compare) and any(isinstance(one, (ast.Is, ast.IsNot)) for one in node.ops):
                self.assertIsInstance(node.comparators[0], ast.Constant, file)

    def test_no_percent_sign_and_no_float_in_values(self):
        for file, tree in trees():
            skipped = list(docstrings(tree))
            for node in ast.walk(tree):
                if isinstance(node, ast.Constant) and node not in skipped:
                    self.assertNotIsInstance(node.value, (float, complex), file)
                    self.assertNotIn(chr(37), str(node.value), file)

    def test_words_that_are_not_used(self):
        for file in FILES:
            words = re.findall(r"\w+", file.read_text())
            for word in WORDS_NOT_USED:
                self.assertNotIn(word, words, file)


if __name__ == "__main__":
    unittest.main()

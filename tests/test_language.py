"""The rules of the language that can be seen in the files of the package."""

import ast
import builtins
import os
import re
import unittest

PACKAGE = os.path.join(os.path.dirname(os.path.dirname(os.path.abspath(__file__))), "holetubs")
BUILTINS = set("""len range enumerate zip min max sum abs sorted reversed int str bool list tuple dict set isinstance
    ord repr any all divmod iter next ValueError KeyError IndexError LookupError ZeroDivisionError""".split())
STATEMENTS = (ast.Assign, ast.AugAssign, ast.If, ast.While, ast.For, ast.Return, ast.Break, ast.Continue, ast.Pass,
              ast.Raise, ast.Expr, ast.FunctionDef, ast.ClassDef, ast.ImportFrom, ast.Try, ast.Assert, ast.Delete)
EXPRESSIONS_BARRED = (ast.Lambda, ast.GeneratorExp, ast.Await, ast.Yield, ast.YieldFrom, ast.Div, ast.Set, ast.SetComp)
BARRED_WORDS = re.compile(r"\b(type|typing|enum|Enum|Flag|Generic|Protocol|ABC|namedtuple|NamedTuple)\b"
                          r"|dataclass|overload|contextmanager")
BARRED_NAMES = {"register", "mro", "elements", "open", "input", "law", "id", "vars", "dir", "exit", "help", "super"}
METHODS = set("""append clear copy count endswith extend find get index insert items join keys pop remove replace
    reverse setdefault split startswith strip update values""".split())


def package_files():
    told = {}
    for name in sorted(os.listdir(PACKAGE)):
        if name != "__pycache__":
            with open(os.path.join(PACKAGE, name), encoding="utf-8") as file:
                told[name] = file.read()
    return told


def assigned(tree):
    """All names that are bound somewhere in a file."""
    for node in ast.walk(tree):
        if isinstance(node, (ast.FunctionDef, ast.ClassDef)):
            yield node.name
        elif isinstance(node, ast.arg):
            yield node.arg
        elif isinstance(node, ast.Name) and not isinstance(node.ctx, ast.Load):
            yield node.id


def own_parts(trees):
    """The names of the methods and of the attributes that the classes have."""
    nodes = [node for tree in trees for node in ast.walk(tree)]
    methods = {part.name for node in nodes if isinstance(node, ast.ClassDef) for part in node.body
               if isinstance(part, ast.FunctionDef)}
    attributes = {node.attr for node in nodes if isinstance(node, ast.Attribute) and isinstance(node.ctx, ast.Store)}
    return methods, attributes


class TestLanguage(unittest.TestCase):
    def each(self, check):
        for name, text in package_files().items():
            with self.subTest(name):
                check(name, text, ast.parse(text))

    def test_files_and_characters(self):
        def check(name, text, tree):
            self.assertRegex(name, r"^(__init__|[a-z][a-z0-9_]*)\.py$")
            self.assertRegex(text, r"\A[ -~\n]*\Z")
            self.assertIsNone(BARRED_WORDS.search(text))
        self.assertIn("__init__.py", package_files())
        self.each(check)

    def test_sizes(self):
        def check(name, text, tree):
            self.assertLessEqual(len(text.splitlines()), 399)
            self.assertLessEqual(max([len(line) for line in text.splitlines()]), 120)
            for node in ast.walk(tree):
                if isinstance(node, ast.FunctionDef):
                    self.assertLessEqual(node.end_lineno - node.lineno + 1, 40)
        self.each(check)

    def test_imports(self):
        files = package_files()

        def check(name, text, tree):
            for node in ast.walk(tree):
                self.assertNotIsInstance(node, ast.Import)
                if isinstance(node, ast.ImportFrom):
                    self.assertIn(node, tree.body)
                    self.assertEqual(node.level, 0)
                    package, module = node.module.split(".")
                    self.assertEqual(package, "holetubs")
                    own = list(assigned(ast.parse(files[module + ".py"])))
                    for row in node.names:
                        self.assertIn(row.name, own)
        self.each(check)

    def test_module_level(self):
        def check(name, text, tree):
            for at, node in enumerate(tree.body):
                if isinstance(node, ast.Expr):
                    self.assertEqual(at, 0)
                elif isinstance(node, ast.Assign):
                    ast.literal_eval(node.value)
                else:
                    self.assertIsInstance(node, (ast.ImportFrom, ast.FunctionDef, ast.ClassDef))
        self.each(check)

    def test_statements_and_values(self):
        def check(name, text, tree):
            for node in ast.walk(tree):
                if isinstance(node, ast.stmt):
                    self.assertIsInstance(node, STATEMENTS)
                self.assertNotIsInstance(node, EXPRESSIONS_BARRED)
                if isinstance(node, ast.Constant):
                    self.assertNotIsInstance(node.value, (float, complex, bytes))
                    self.assertNotIn("%", str(node.value))
                if isinstance(node, ast.Compare):
                    for sign, other in zip(node.ops, node.comparators):
                        if isinstance(sign, (ast.Is, ast.IsNot)):
                            self.assertIsInstance(other, ast.Constant)
        self.each(check)

    def test_iterated_at_once(self):
        def check(name, text, tree):
            for node in ast.walk(tree):
                if isinstance(node, (ast.Assign, ast.Return)) and isinstance(node.value, ast.Call):
                    called = node.value.func
                    word = called.id if isinstance(called, ast.Name) else called.attr
                    self.assertNotIn(word, ("range", "zip", "enumerate", "reversed", "items", "keys", "values"))
        self.each(check)

    def test_classes(self):
        def check(name, text, tree):
            methods, attributes = own_parts([tree])
            self.assertFalse(methods & attributes)
            self.assertFalse(attributes & (METHODS | {"sort", "args", "format"}))
            for node in ast.walk(tree):
                if isinstance(node, ast.ClassDef):
                    self.assertFalse(node.decorator_list)
                    for part in node.body:
                        self.assertIsInstance(part, (ast.FunctionDef, ast.Expr))
                        if isinstance(part, ast.FunctionDef) and part.name.startswith("__"):
                            self.assertIn(part.name, ("__init__", "__eq__", "__len__"))
        self.each(check)

    def test_no_import_goes_round(self):
        ways = {name[:-3]: [node.module.split(".")[1] for node in ast.parse(text).body
                            if isinstance(node, ast.ImportFrom)] for name, text in package_files().items()}
        done = []
        while len(done) < len(ways):
            ready = [name for name in ways if name not in done and all([way in done for way in ways[name]])]
            self.assertTrue(ready)
            done += ready

    def test_names(self):
        methods, attributes = own_parts([ast.parse(text) for text in package_files().values()])

        def check(name, text, tree):
            bound = set(assigned(tree))
            imported = {row.name for node in tree.body if isinstance(node, ast.ImportFrom) for row in node.names}
            self.assertFalse(bound & (set(dir(builtins)) | BARRED_NAMES | imported))
            self.assertFalse([word for word in bound if word.startswith("_") and not word.startswith("__")])
            for node in ast.walk(tree):
                if isinstance(node, ast.Name) and hasattr(builtins, node.id):
                    self.assertIn(node.id, BUILTINS)
                if isinstance(node, ast.Attribute):
                    self.assertIn(node.attr, METHODS | methods | attributes)
        self.each(check)


if __name__ == "__main__":
    unittest.main()

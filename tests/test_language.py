"""Those rules of LANGUAGE.md that a look at the files of the package can hold them to."""

import ast
import builtins
import pathlib
import re
import unittest

FOLDER = pathlib.Path(__file__).resolve().parent.parent / "panelook"
FILES = sorted(path for path in FOLDER.rglob("*") if "__pycache__" not in path.parts and path.is_file())

BUILTINS = set("""len range enumerate zip min max sum abs sorted reversed int str bool bytes list tuple dict set
    frozenset isinstance ord repr any all divmod Exception ValueError TypeError KeyError IndexError LookupError
    ZeroDivisionError ArithmeticError OverflowError RuntimeError NotImplementedError AttributeError StopIteration
    NotImplemented""".split())
WORDS = set("""type typing typing_extensions enum Enum IntEnum StrEnum Flag IntFlag Generic Protocol ABC ABCMeta
    namedtuple NamedTuple TypedDict TYPE_CHECKING abstractmethod""".split())
SPECIAL = set("""__init__ __eq__ __repr__ __str__ __len__ __enter__ __exit__ __call__ __iter__""".split())
METHODS = set("""append clear copy count endswith extend find get index insert isalnum isalpha isdigit islower isspace
    isupper items join keys ljust lower lstrip partition pop remove replace reverse rfind rjust rpartition rsplit
    rstrip setdefault split splitlines startswith strip update upper values zfill bit_length""".split())
BARRED = (ast.Global, ast.AsyncFunctionDef, ast.AsyncFor, ast.AsyncWith, ast.Await, ast.Import, ast.Div)


def names_bound(tree):
    """Every name that the file gives a meaning, but those of imports."""
    for node in ast.walk(tree):
        if isinstance(node, (ast.FunctionDef, ast.ClassDef)):
            yield node.name
        elif isinstance(node, ast.arg):
            yield node.arg
        elif isinstance(node, ast.Name) and isinstance(node.ctx, ast.Store):
            yield node.id
        elif isinstance(node, ast.Attribute) and isinstance(node.ctx, ast.Store):
            yield node.attr


class Language(unittest.TestCase):
    def setUp(self):
        self.texts = {path: path.read_text("utf-8") for path in FILES}
        self.trees = {path: ast.parse(text) for path, text in self.texts.items()}

    def nodes(self, *kinds):
        for path, tree in self.trees.items():
            for node in ast.walk(tree):
                if isinstance(node, kinds):
                    yield f"{path.name}:{getattr(node, 'lineno', 0)}", node

    def test_files(self):
        self.assertIn(FOLDER / "__init__.py", FILES)
        for path in FILES:
            self.assertRegex(path.name, r"\A[a-z0-9_]+\.py\Z")
            self.assertEqual(path.parent, FOLDER)

    def test_lines_and_characters(self):
        for path, text in self.texts.items():
            self.assertLessEqual(len(text.splitlines()), 400, path.name)
            for number, line in enumerate(text.split("\n"), 1):
                self.assertLessEqual(len(line), 120, (path.name, number))
                self.assertRegex(line, r"\A[ -~]*\Z", (path.name, number))

    def test_words(self):
        for path, text in self.texts.items():
            self.assertEqual(WORDS & set(re.findall(r"\w+", text)), set(), path.name)
            self.assertNotRegex(text, "dataclass|overload|contextmanager", path.name)

    def test_functions_are_short_and_bare(self):
        for where, node in self.nodes(ast.FunctionDef):
            self.assertLessEqual(node.end_lineno - node.lineno + 1, 40, where)
            self.assertEqual(node.args.posonlyargs, [], where)

    def test_names(self):
        for path, tree in self.trees.items():
            for name in names_bound(tree):
                if name not in SPECIAL:
                    self.assertRegex(name, r"\A[A-Za-z][A-Za-z0-9_]*\Z", path.name)

    def test_builtins(self):
        for where, node in self.nodes(ast.Name):
            if node.id in dir(builtins):
                self.assertIn(node.id, BUILTINS, where)
        for path, tree in self.trees.items():
            given = [node.name for node in tree.body if isinstance(node, (ast.FunctionDef, ast.ClassDef))]
            self.assertEqual(set(given) & set(dir(builtins)), set(), path.name)
        for where, node in self.nodes(ast.arg):
            self.assertNotIn(node.arg, dir(builtins), where)

    def test_imports(self):
        for where, node in self.nodes(ast.ImportFrom):
            self.assertEqual(node.level, 0, where)
            path = FOLDER.parent / (node.module.replace(".", "/") + ".py")
            self.assertIn(path, FILES, where)
            defined = [part.name for part in self.trees[path].body if isinstance(part, (ast.FunctionDef, ast.ClassDef))]
            defined += [part.targets[0].id for part in self.trees[path].body if isinstance(part, ast.Assign)]
            for name in node.names:
                self.assertIn(name.name, defined, where)

    def test_methods_and_attributes(self):
        methods = [node.name for _, row in self.nodes(ast.ClassDef) for node in row.body
                   if isinstance(node, ast.FunctionDef)]
        stored = {node.attr for _, node in self.nodes(ast.Attribute) if isinstance(node.ctx, ast.Store)}
        self.assertEqual(stored & set(methods), set())
        for value in ("", 0, [], {}, set(), b""):
            self.assertEqual(stored & set(dir(value)), set())
            self.assertEqual((set(methods) - SPECIAL) & set(dir(value)), set())
        for where, node in self.nodes(ast.Attribute):
            if not isinstance(node.ctx, ast.Store):
                self.assertIn(node.attr, stored | set(methods) | METHODS, where)

    def test_attributes_are_stored_through_a_name(self):
        for where, node in self.nodes(ast.Attribute):
            if isinstance(node.ctx, ast.Store):
                self.assertIsInstance(node.value, ast.Name, where)

    def test_methods_stand_in_one_class_once(self):
        for where, row in self.nodes(ast.ClassDef):
            names = [node.name for node in row.body if isinstance(node, ast.FunctionDef)]
            self.assertEqual(len(names), len(set(names)), where)

    def test_no_name_of_an_import_or_a_class_is_given_another_meaning(self):
        for path, tree in self.trees.items():
            taken = {name.name for node in tree.body if isinstance(node, ast.ImportFrom) for name in node.names}
            taken |= {node.name for node in tree.body if isinstance(node, ast.ClassDef)}
            given = [node.arg for node in ast.walk(tree) if isinstance(node, ast.arg)]
            given += [node.id for node in ast.walk(tree) if isinstance(node, ast.Name) and
                      isinstance(node.ctx, ast.Store)]
            self.assertEqual(taken & set(given), set(), path.name)
            self.assertEqual(set(given) & set(dir(builtins)), set(), path.name)

    def test_statements_and_values(self):
        for where, node in self.nodes(*BARRED):
            self.fail(f"{where}: {type(node).__name__}")
        for where, node in self.nodes(ast.Constant):
            self.assertNotIsInstance(node.value, (float, complex), where)
            if isinstance(node.value, str):
                self.assertNotIn("%", node.value, where)
        for where, node in self.nodes(ast.Compare):
            for sign, right in zip(node.ops, node.comparators):
                if isinstance(sign, (ast.Is, ast.IsNot)):
                    self.assertIn(ast.unparse(right), ("None", "True", "False"), where)


if __name__ == "__main__":
    unittest.main()

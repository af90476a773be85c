"""The form of the code: what of LANGUAGE.md can be told from the files alone."""

import ast
import builtins
import pathlib
import re
import unittest

PACKAGE = pathlib.Path(__file__).resolve().parent.parent / "versestock"
FILES = {path.stem: path.read_text(encoding="utf-8") for path in sorted(PACKAGE.glob("*.py"))}
TREES = {name: ast.parse(text) for name, text in FILES.items()}

OWN_NAMES_OF_PYTHON = """len range enumerate zip min max sum abs sorted reversed int str bool list tuple dict set
    frozenset isinstance ord repr any all divmod Exception ValueError TypeError KeyError IndexError LookupError
    ZeroDivisionError ArithmeticError OverflowError RuntimeError NotImplementedError AttributeError
    StopIteration""".split()
METHODS = """append clear copy count endswith extend find get index insert isalnum isalpha isdigit islower isspace
    isupper items join keys ljust lower lstrip partition pop remove replace reverse rfind rjust rpartition rsplit
    rstrip setdefault split splitlines startswith strip update upper values zfill bit_length""".split()
WORDS_NOWHERE = """type typing typing_extensions enum Enum IntEnum StrEnum Flag IntFlag Generic Protocol ABC ABCMeta
    namedtuple NamedTuple TypedDict TYPE_CHECKING abstractmethod""".split()
STATEMENTS = (ast.Assign, ast.AugAssign, ast.If, ast.While, ast.For, ast.Return, ast.Break, ast.Continue, ast.Pass,
              ast.Raise, ast.Try, ast.FunctionDef, ast.ClassDef, ast.ImportFrom, ast.Expr)
NOT_USED = (ast.GeneratorExp, ast.SetComp, ast.DictComp, ast.NamedExpr, ast.Starred, ast.Set, ast.Div,
            ast.Await, ast.Yield, ast.YieldFrom, ast.JoinedStr)


def walked(kind):
    return [(name, node) for name, tree in TREES.items() for node in ast.walk(tree) if isinstance(node, kind)]


def names_of_file(tree):
    """What is bound anywhere in a file."""
    bound = {node.id for node in ast.walk(tree) if isinstance(node, ast.Name) and isinstance(node.ctx, ast.Store)}
    bound |= {node.arg for node in ast.walk(tree) if isinstance(node, ast.arg)}
    bound |= {node.name for node in ast.walk(tree) if isinstance(node, (ast.FunctionDef, ast.ClassDef))}
    bound |= {alias.name for node in ast.walk(tree) if isinstance(node, ast.ImportFrom) for alias in node.names}
    return bound


class FormTest(unittest.TestCase):
    def test_files(self):
        inside = [path.name for path in PACKAGE.iterdir() if path.name != "__pycache__"]
        self.assertEqual(sorted(inside), sorted(f"{name}.py" for name in FILES))
        for name, text in FILES.items():
            self.assertRegex(name, "^([a-z][a-z0-9_]*|__init__)$")
            self.assertRegex(text, r"\A[ -~\n]*\Z")
            rows = text.split("\n")
            self.assertLessEqual(len(rows), 400)
            self.assertLessEqual(max(len(row) for row in rows), 120)

    def test_words_that_stand_nowhere(self):
        for name, text in FILES.items():
            found = set(re.findall("[A-Za-z_0-9]+", text)) & set(WORDS_NOWHERE)
            self.assertEqual((name, found), (name, set()))
            self.assertIsNone(re.search("dataclass|overload|contextmanager", text))

    def test_imports(self):
        drawn = {name: set() for name in TREES}
        for name, node in walked((ast.Import, ast.ImportFrom)):
            self.assertIsInstance(node, ast.ImportFrom)
            self.assertIn(node, TREES[name].body)
            self.assertEqual((node.level, node.module.split(".")[0]), (0, "versestock"))
            source = node.module.split(".")[1]
            defined = {item.name for item in TREES[source].body if isinstance(item, (ast.FunctionDef, ast.ClassDef))}
            defined |= {item.targets[0].id for item in TREES[source].body if isinstance(item, ast.Assign)}
            self.assertLessEqual({alias.name for alias in node.names}, defined)
            drawn[name].add(source)
        while drawn:
            free = [name for name in drawn if not drawn[name] & set(drawn)]
            self.assertNotEqual(free, [], "files that draw from one another")
            drawn = {name: drawn[name] for name in drawn if name not in free}

    def test_statements_and_expressions(self):
        for name, node in walked(ast.stmt):
            with self.subTest(file=name, row=node.lineno):
                self.assertIsInstance(node, STATEMENTS)
                self.assertFalse(isinstance(node, (ast.For, ast.While)) and node.orelse)
                self.assertFalse(isinstance(node, ast.Try) and node.finalbody)
                if isinstance(node, ast.Assign):
                    self.assertEqual(len(node.targets), 1)
                    self.assertIsInstance(node.targets[0], (ast.Name, ast.Attribute, ast.Subscript))
                if isinstance(node, ast.Expr) and node is not TREES[name].body[0]:
                    self.assertIsInstance(node.value, ast.Call)
        self.assertEqual([(name, node) for name, node in walked(NOT_USED)], [])
        for name, node in walked(ast.Constant):
            self.assertIn(type(node.value), (int, str, bool, type(None)))
        for name, node in walked(ast.ListComp):
            self.assertEqual((len(node.generators), len(node.generators[0].ifs) <= 1), (1, True))

    def test_functions_and_classes(self):
        for name, node in walked(ast.FunctionDef):
            with self.subTest(file=name, function=node.name):
                self.assertLessEqual(node.end_lineno - node.lineno + 1, 40)
                self.assertIsNone(node.args.vararg or node.args.kwarg)
                self.assertEqual((node.args.kwonlyargs, node.args.posonlyargs, node.decorator_list), ([], [], []))
        for name, node in walked(ast.ClassDef):
            self.assertIn(node, TREES[name].body)
            self.assertLessEqual(len(node.bases), 1)
            self.assertEqual((node.keywords, node.decorator_list), ([], []))
            self.assertTrue(all(isinstance(item, (ast.FunctionDef, ast.Pass)) for item in node.body))

    def test_names(self):
        for name, tree in TREES.items():
            bound = names_of_file(tree)
            for item in bound - {"__init__"}:
                self.assertRegex(item, "^[A-Za-z][A-Za-z0-9_]*$")
            self.assertEqual(bound & set(dir(builtins)), set())
            used = {node.id for node in ast.walk(tree) if isinstance(node, ast.Name)}
            self.assertLessEqual(used - bound, set(OWN_NAMES_OF_PYTHON))

    def test_each_name_once_at_the_top(self):
        for name, tree in TREES.items():
            bound = [item.name for item in tree.body if isinstance(item, (ast.FunctionDef, ast.ClassDef))]
            bound += [item.targets[0].id for item in tree.body if isinstance(item, ast.Assign)]
            bound += [alias.name for item in tree.body if isinstance(item, ast.ImportFrom) for alias in item.names]
            self.assertEqual(len(bound), len(set(bound)))
            for item in tree.body:
                if isinstance(item, ast.Assign):
                    ast.literal_eval(item.value)

    def test_methods(self):
        own = {node.name for name, node in walked(ast.FunctionDef)}
        for name, node in walked(ast.Call):
            if isinstance(node.func, ast.Attribute):
                self.assertIn(node.func.attr, set(METHODS) | own)


if __name__ == "__main__":
    unittest.main()

# The rules of the language that can be seen in a file's form, by their numbers.
import ast
import builtins
import pathlib
import re
import unittest

PACKAGE = pathlib.Path(__file__).resolve().parent.parent / "lotwander"
FILES = sorted(PACKAGE.rglob("*.py"))

OWN_NAMES = set("""len range enumerate zip min max sum abs sorted reversed int str bool list tuple dict set frozenset
    isinstance ord repr any all divmod Exception ValueError TypeError KeyError IndexError LookupError ZeroDivisionError
    ArithmeticError OverflowError RuntimeError NotImplementedError StopIteration""".split())
METHODS = set("""append clear copy count endswith extend find get index insert isalnum isalpha isdigit islower isspace
    isupper items join keys ljust lower lstrip partition pop remove replace reverse rfind rjust rpartition rsplit rstrip
    setdefault split splitlines startswith strip update upper values zfill bit_length""".split())
WORDS = """type typing typing_extensions enum Enum IntEnum StrEnum Flag IntFlag Generic Protocol ABC ABCMeta namedtuple
    NamedTuple TypedDict TYPE_CHECKING abstractmethod""".split()
UNUSED = set("""register mro elements open input version_info with_traceback add_note attrgetter breakpoint builtins
    compile copyright credits delattr dir eval exec exit gc getattr globals hasattr help id importlib license locals
    methodcaller os quit setattr super type vars sys __name__""".split())
TWO_UNDERSCORES = {"__init__", "__eq__", "__repr__", "__str__", "__len__", "__all__", "__version__"}
STATEMENTS = (ast.Assign, ast.AugAssign, ast.If, ast.While, ast.For, ast.Return, ast.Break, ast.Continue, ast.Pass,
              ast.Raise, ast.Try, ast.Expr, ast.FunctionDef, ast.ClassDef, ast.ImportFrom)
EXPRESSIONS = (ast.BinOp, ast.UnaryOp, ast.BoolOp, ast.Compare, ast.IfExp, ast.Call, ast.Attribute, ast.Subscript,
               ast.Slice, ast.ListComp, ast.JoinedStr, ast.FormattedValue, ast.Constant, ast.Name, ast.List, ast.Tuple,
               ast.Dict, ast.Set, ast.Lambda)


def nodes(path, *kinds):
    return [node for node in ast.walk(ast.parse(path.read_text())) if isinstance(node, kinds)]


def bound_names(path):
    names = [node.id for node in nodes(path, ast.Name) if isinstance(node.ctx, ast.Store)]
    names += [node.arg for node in nodes(path, ast.arg)]
    names += [node.name for node in nodes(path, ast.FunctionDef, ast.ClassDef)]
    return names


def top_names(path):
    names = []
    for node in ast.parse(path.read_text()).body:
        if isinstance(node, (ast.FunctionDef, ast.ClassDef)):
            names.append(node.name)
        if isinstance(node, ast.ImportFrom):
            names += [alias.asname or alias.name for alias in node.names]
        if isinstance(node, ast.Assign):
            names += [target.id for target in node.targets]
    return names


class LanguageTest(unittest.TestCase):
    def each(self):
        for path in FILES:
            with self.subTest(file=path.name):
                yield path

    def test_files_and_signs(self):  # L1, L10, L14
        self.assertTrue(FILES)
        for path in PACKAGE.rglob("*"):
            if "__pycache__" not in path.parts:
                self.assertTrue(path.is_dir() or path.suffix == ".py", path)
        for path in self.each():
            text = path.read_bytes().decode("ascii")
            self.assertRegex(path.stem, "^[a-z0-9_]+$")
            self.assertNotRegex(text, "[^ -~\n]")
            self.assertLessEqual(len(text.splitlines()), 400)
            self.assertLessEqual(max(len(line) for line in text.splitlines()), 120)

    def test_words(self):  # L17
        for path in self.each():
            text = path.read_text()
            self.assertNotRegex(text, r"\b(" + "|".join(WORDS) + r")\b")
            self.assertNotRegex(text, "dataclass|overload|contextmanager")

    def test_imports(self):  # L2, L16
        drawn = {}
        for path in self.each():
            drawn[path.stem] = []
            for node in nodes(path, ast.ImportFrom):
                self.assertRegex(node.module, r"^lotwander\.[a-z]+$")
                self.assertEqual(node.level, 0)
                source = PACKAGE / (node.module.split(".")[1] + ".py")
                defined = top_names(source)
                for inner in nodes(source, ast.ImportFrom):
                    defined = [name for name in defined if name not in [alias.name for alias in inner.names]]
                for alias in node.names:
                    self.assertIn(alias.name, defined)
                drawn[path.stem].append(source.stem)
        while drawn:
            free = [name for name in drawn if not [other for other in drawn[name] if other in drawn]]
            self.assertTrue(free, "files draw from one another")
            drawn = {name: drawn[name] for name in drawn if name not in free}

    def test_statements_and_expressions(self):  # L3 to L7, L20, L21
        for path in self.each():
            tree = ast.parse(path.read_text())
            for node in nodes(path, ast.stmt):
                self.assertIsInstance(node, STATEMENTS, ast.dump(node))
            for node in nodes(path, ast.expr):
                self.assertIsInstance(node, EXPRESSIONS, ast.dump(node))
            docstrings = [node for node in nodes(path, ast.Expr) if not isinstance(node.value, ast.Call)]
            self.assertEqual(len(docstrings), 1)
            self.assertIsNotNone(ast.get_docstring(tree))
            for node in nodes(path, ast.Assign):
                self.assertEqual(len(node.targets), 1)
                self.assertNotIsInstance(node.targets[0], (ast.Tuple, ast.List))
            for node in nodes(path, ast.For, ast.While):
                self.assertEqual(node.orelse, [])
            for node in nodes(path, ast.comprehension):
                self.assertLessEqual(len(node.ifs), 1)
            for node in nodes(path, ast.ListComp):
                self.assertEqual(len(node.generators), 1)
            for node in nodes(path, ast.Constant):
                self.assertIsInstance(node.value, (int, str, type(None)))
            for node in nodes(path, ast.BinOp, ast.AugAssign):
                self.assertNotIsInstance(node.op, (ast.Div, ast.MatMult))
            for node in nodes(path, ast.Compare):
                for operator, right in zip(node.ops, node.comparators):
                    if isinstance(operator, (ast.Is, ast.IsNot)):
                        self.assertIn(ast.unparse(right), ("None", "True", "False"))

    def test_functions_and_classes(self):  # L4, L5, L10, L18
        for path in self.each():
            for node in nodes(path, ast.FunctionDef):
                self.assertLessEqual(node.end_lineno - node.lineno + 1, 40)
                self.assertEqual(node.decorator_list, [])
                given = node.args
                self.assertFalse(given.vararg or given.kwarg or given.kwonlyargs or given.posonlyargs)
            for node in nodes(path, ast.ClassDef):
                self.assertEqual((node.decorator_list, node.keywords), ([], []))
                self.assertLessEqual(len(node.bases), 1)
                for inner in node.body:
                    self.assertIsInstance(inner, (ast.FunctionDef, ast.Pass))

    def test_names(self):  # L8, L12, L15, L17
        own = set(dir(builtins))
        for path in self.each():
            tops = top_names(path)
            self.assertEqual(len(tops), len(set(tops)))
            bound = bound_names(path)
            for name in bound:
                self.assertNotIn(name, own)
                self.assertTrue(re.match("^[A-Za-z][A-Za-z0-9_]*$", name) or name in TWO_UNDERSCORES, name)
            imported = [alias.name for node in nodes(path, ast.ImportFrom) for alias in node.names]
            classes = [node.name for node in nodes(path, ast.ClassDef)]
            inner = [node.arg for node in nodes(path, ast.arg)]
            inner += [node.id for node in nodes(path, ast.Name) if isinstance(node.ctx, ast.Store)]
            self.assertEqual([name for name in inner if name in imported + classes], [])
            for node in nodes(path, ast.Name):
                self.assertTrue(node.id in OWN_NAMES or node.id in bound + imported, node.id)
                self.assertNotIn(node.id, UNUSED)

    def test_calls(self):  # L19, L22, L25
        for path in self.each():
            for node in nodes(path, ast.Call):
                if isinstance(node.func, ast.Attribute):
                    self.assertIn(node.func.attr, METHODS)
                for keyword in node.keywords:
                    self.assertIn(keyword.arg, ("key", "reverse", "default", "start", "strict"))
            for node in nodes(path, ast.ExceptHandler):
                self.assertIsNotNone(node.type)
                self.assertNotIn(ast.unparse(node.type), ("Exception", "TypeError"))


if __name__ == "__main__":
    unittest.main()

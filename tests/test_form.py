"""The package's files keep to their form, and the program prints, reads and imports nothing."""

import ast
import builtins
import contextlib
import inspect
import io
import pathlib
import re
import unittest

import cutreach
from cutreach import tools

FOLDER = pathlib.Path(cutreach.__file__).parent
OWN_NAMES = """len range enumerate zip min max sum abs sorted reversed int str bool list tuple dict set frozenset
    isinstance ord repr any all divmod Exception ValueError TypeError KeyError IndexError LookupError
    ZeroDivisionError ArithmeticError OverflowError RuntimeError NotImplementedError AttributeError
    StopIteration""".split()
METHODS = """append clear copy count endswith extend find get index insert isalnum isalpha isdigit islower isspace
    isupper items join keys ljust lower lstrip partition pop remove replace reverse rfind rjust rpartition rsplit
    rstrip setdefault split splitlines startswith strip update upper values zfill bit_length""".split()
BARRED_WORDS = """type typing typing_extensions enum Enum IntEnum StrEnum Flag IntFlag Generic Protocol ABC ABCMeta
    namedtuple NamedTuple TypedDict TYPE_CHECKING abstractmethod""".split()
STATEMENTS = (ast.Assign, ast.AugAssign, ast.If, ast.While, ast.For, ast.Return, ast.Break, ast.Continue, ast.Pass,
              ast.Raise, ast.Try, ast.Expr, ast.FunctionDef, ast.ClassDef)
BARRED_NODES = (ast.GeneratorExp, ast.SetComp, ast.DictComp, ast.NamedExpr, ast.Starred, ast.Div, ast.Yield,
                ast.YieldFrom, ast.Await)
SIGNATURES = {
    "judge": ["part", "tools"],
    "reach": ["k", "part", "tools", "made"],
    "order": ["part", "tools"],
    "round_of": ["k", "part", "tools"],
    "waits": ["a", "b", "part", "tools"],
    "ways": ["k", "part", "tools"],
}


def sources():
    return [(path, path.read_bytes()) for path in sorted(FOLDER.glob("*.py"))]


def nodes():
    return [(path.name, node) for path, source in sources() for node in ast.walk(ast.parse(source))]


class Form(unittest.TestCase):
    def test_files(self):
        found = sorted(path.name for path in FOLDER.iterdir() if path.name != "__pycache__")
        self.assertEqual(found, ["__init__.py", "tools.py"])

    def test_signs_and_size(self):
        for path, source in sources():
            lines = source.split(b"\n")
            self.assertLessEqual(len(lines), 401, path)
            for line in lines:
                self.assertLessEqual(len(line), 120, (path, line))
                self.assertTrue(all(32 <= sign <= 126 for sign in line), (path, line))

    def test_functions_are_small(self):
        for name, node in nodes():
            if isinstance(node, ast.FunctionDef):
                self.assertLessEqual(node.end_lineno - node.lineno + 1, 40, (name, node.name))
                self.assertEqual(node.decorator_list, [], (name, node.name))

    def test_barred_words(self):
        for path, source in sources():
            for word in re.findall(r"\w+", source.decode()):
                self.assertNotIn(word, BARRED_WORDS, path)

    def test_statements_and_expressions(self):
        for name, node in nodes():
            if isinstance(node, ast.stmt):
                self.assertIsInstance(node, STATEMENTS, (name, node.lineno))
            self.assertNotIsInstance(node, BARRED_NODES, name)
            if isinstance(node, ast.Constant):
                self.assertNotIsInstance(node.value, (float, bytes), (name, node.lineno))

    def test_names(self):
        for name, node in nodes():
            if isinstance(node, ast.Name) and hasattr(builtins, node.id):
                self.assertIsInstance(node.ctx, ast.Load, (name, node.lineno))
                self.assertIn(node.id, OWN_NAMES, (name, node.lineno))
            if isinstance(node, ast.arg):
                self.assertFalse(hasattr(builtins, node.arg), (name, node.lineno))
            if isinstance(node, ast.Call) and isinstance(node.func, ast.Attribute):
                self.assertIn(node.func.attr, METHODS, (name, node.lineno))


class Interface(unittest.TestCase):
    def test_functions_as_they_are_called(self):
        for name, parameters in SIGNATURES.items():
            self.assertEqual(list(inspect.signature(getattr(tools, name)).parameters), parameters)

    def test_imports_nothing(self):
        for name, node in nodes():
            self.assertNotIsInstance(node, (ast.Import, ast.ImportFrom), name)

    def test_prints_nothing(self):
        printed = io.StringIO()
        with contextlib.redirect_stdout(printed), contextlib.redirect_stderr(printed):
            for part in ([112], [], list(b"part a 1 1 1 x\ncut 0 0 0 1 1 1\n")):
                for name, parameters in SIGNATURES.items():
                    given = {"part": part, "tools": [], "made": [0]}
                    getattr(tools, name)(*(given.get(parameter, 0) for parameter in parameters))
        self.assertEqual(printed.getvalue(), "")


class Readme(unittest.TestCase):
    def test_examples(self):
        text = (FOLDER.parent / "README.md").read_text()
        code = re.search(r"```python\n(.*?)```", text, re.DOTALL).group(1)
        names = {}
        exec(code, names)
        shown = re.findall(r"^(.*\S) +# (\[.*\])$", code, re.MULTILINE)
        self.assertGreaterEqual(len(shown), len(SIGNATURES))
        for call, answer in shown:
            self.assertEqual(eval(call, names), ast.literal_eval(answer), call)


if __name__ == "__main__":
    unittest.main()

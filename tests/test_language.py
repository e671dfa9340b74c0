"""The rules of the language that can be seen in a file's rows and words, held against the package's files."""

import ast
import builtins
import pathlib
import re
import unittest

PACKAGE = pathlib.Path(__file__).resolve().parent.parent / "answeredonce"

STATEMENTS = (ast.Assign, ast.AugAssign, ast.If, ast.While, ast.For, ast.Return, ast.Break, ast.Continue, ast.Pass,
              ast.Raise, ast.Try, ast.Expr, ast.FunctionDef, ast.ClassDef, ast.ImportFrom)
EXPRESSIONS = (ast.Constant, ast.List, ast.Tuple, ast.Dict, ast.BinOp, ast.UnaryOp, ast.Compare, ast.BoolOp, ast.IfExp,
               ast.Call, ast.Attribute, ast.Subscript, ast.Slice, ast.ListComp, ast.Name, ast.JoinedStr,
               ast.FormattedValue, ast.Lambda)
BUILT_INS = set("""len range enumerate zip min max sum abs sorted reversed int str bool list tuple dict set frozenset
isinstance ord repr any all divmod Exception ValueError TypeError KeyError IndexError LookupError ZeroDivisionError
ArithmeticError OverflowError RuntimeError NotImplementedError StopIteration""".split())
METHODS = set("""append clear copy count endswith extend find get index insert isalnum isalpha isdigit islower isspace
isupper items join keys ljust lower lstrip partition pop remove replace reverse rfind rjust rpartition rsplit rstrip
setdefault split splitlines startswith strip update upper values zfill bit_length""".split())
WORDS = set("""type typing typing_extensions enum Enum IntEnum StrEnum Flag IntFlag Generic Protocol ABC ABCMeta
namedtuple NamedTuple TypedDict TYPE_CHECKING abstractmethod""".split())


def files():
    return sorted(path for path in PACKAGE.iterdir() if path.name != "__pycache__")


def nodes(path, kind):
    return [node for node in ast.walk(ast.parse(path.read_text("utf-8"))) if isinstance(node, kind)]


class Language(unittest.TestCase):
    def on_each_file(self, check):
        self.assertTrue(files())
        for path in files():
            with self.subTest(file=path.name):
                check(path)

    def test_l1_and_l14_plain_files(self):
        self.on_each_file(lambda path: self.assertRegex(path.name, r"^[a-z0-9_]+\.py$"))

    def test_l2_and_l16_own_modules_alone(self):
        def check(path):
            for node in nodes(path, ast.ImportFrom):
                self.assertRegex(node.module, r"^answeredonce\.[a-z_]+$")
                self.assertEqual(node.level, 0)
                self.assertTrue(all(alias.name != "*" and alias.asname is None for alias in node.names))

        self.on_each_file(check)

    def test_l6_and_l7_statements_and_expressions(self):
        def check(path):
            for node in nodes(path, (ast.stmt, ast.expr)):
                self.assertIsInstance(node, STATEMENTS + EXPRESSIONS, f"row {node.lineno}")
            for node in nodes(path, ast.Assign):
                self.assertEqual([len(node.targets), isinstance(node.targets[0], ast.Tuple)], [1, False], node.lineno)
            for node in nodes(path, (ast.For, ast.While)):
                self.assertEqual(node.orelse, [], f"row {node.lineno}")

        self.on_each_file(check)

    def test_l8_and_l12_and_l15_names(self):
        def check(path):
            for node in nodes(path, (ast.Name, ast.arg)):
                name = node.id if isinstance(node, ast.Name) else node.arg
                self.assertRegex(name, r"^[A-Za-z][A-Za-z0-9_]*$")
                if name in vars(builtins):
                    self.assertIn(name, BUILT_INS)
                    self.assertIsInstance(getattr(node, "ctx", None), ast.Load, f"row {node.lineno}")

        self.on_each_file(check)

    def test_l10_size(self):
        def check(path):
            rows = path.read_text("utf-8").split("\n")
            self.assertLessEqual(len(rows), 400)
            self.assertLessEqual(max(len(row) for row in rows), 120)
            for node in nodes(path, ast.FunctionDef):
                self.assertLessEqual(node.end_lineno - node.lineno + 1, 40, node.name)

        self.on_each_file(check)

    def test_l14_signs_and_l17_words(self):
        def check(path):
            text = path.read_text("utf-8")
            self.assertRegex(text, r"\A[ -~\n]*\Z")
            self.assertEqual(set(re.findall(r"\w+", text)) & WORDS, set())

        self.on_each_file(check)

    def test_l15_no_parameter_or_local_is_called_like_an_import_or_a_class(self):
        def check(path):
            taken = {alias.name for node in nodes(path, ast.ImportFrom) for alias in node.names}
            taken.update(node.name for node in nodes(path, ast.ClassDef))
            given = {node.arg for node in nodes(path, ast.arg)}
            given.update(node.id for node in nodes(path, ast.Name) if isinstance(node.ctx, ast.Store))
            self.assertEqual(taken & given, set())

        self.on_each_file(check)

    def test_l16_each_name_from_the_file_that_defines_it_and_no_circle(self):
        drawn = {}
        for path in files():
            for node in nodes(path, ast.ImportFrom):
                source = node.module.split(".")[1]
                drawn.setdefault(path.stem, set()).add(source)
                body = ast.parse((PACKAGE / f"{source}.py").read_text("utf-8")).body
                own = {row.name for row in body if isinstance(row, (ast.FunctionDef, ast.ClassDef))}
                own.update(row.targets[0].id for row in body if isinstance(row, ast.Assign))
                self.assertLessEqual({alias.name for alias in node.names}, own, path.name)
        while drawn:
            free = [name for name, sources in drawn.items() if not sources & set(drawn)]
            self.assertTrue(free, f"a circle: {drawn}")
            for name in free:
                drawn.pop(name)

    def test_l18_and_l26_values_of_objects(self):
        own = set()
        for path in files():
            own.update(node.attr for node in nodes(path, ast.Attribute) if isinstance(node.ctx, ast.Store))
        for kind in (str, int, list, dict, set, bytes, tuple):
            self.assertEqual(own & set(dir(kind)), set())

    def test_l20_is_beside_none_alone(self):
        def check(path):
            for node in nodes(path, ast.Compare):
                if any(isinstance(sign, (ast.Is, ast.IsNot)) for sign in node.ops):
                    self.assertIsInstance(node.comparators[0], ast.Constant, f"row {node.lineno}")

        self.on_each_file(check)

    def test_l25_methods(self):
        def check(path):
            for node in nodes(path, ast.Call):
                if isinstance(node.func, ast.Attribute):
                    self.assertIn(node.func.attr, METHODS, f"row {node.lineno}")

        self.on_each_file(check)


if __name__ == "__main__":
    unittest.main()

"""The package's own files keep to the small part of Python that they are to be written in.

Not every rule can be seen from here; these are the ones that a row of code breaks most easily.
"""

import ast
import builtins
import pathlib
import re
import unittest

FOLDER = pathlib.Path(__file__).resolve().parent.parent / "claimparts"

STATEMENTS = (ast.Module, ast.FunctionDef, ast.ClassDef, ast.Assign, ast.AugAssign, ast.If, ast.While, ast.For,
              ast.Return, ast.Break, ast.Continue, ast.Pass, ast.Raise, ast.Try, ast.ExceptHandler, ast.Expr,
              ast.ImportFrom)
EXPRESSIONS = (ast.BoolOp, ast.BinOp, ast.UnaryOp, ast.Lambda, ast.IfExp, ast.Dict, ast.ListComp, ast.Compare,
               ast.Call, ast.Constant, ast.Attribute, ast.Subscript, ast.Name, ast.List, ast.Tuple, ast.Slice,
               ast.comprehension, ast.arguments, ast.arg, ast.keyword, ast.alias, ast.JoinedStr, ast.FormattedValue)
SIGNS = (ast.expr_context, ast.boolop, ast.operator, ast.unaryop, ast.cmpop)
NOT_USED = (ast.Div, ast.MatMult, ast.Is, ast.IsNot)

OWN_NAMES = """len range enumerate zip min max sum abs sorted reversed int str bool list tuple dict set frozenset
    isinstance ord repr any all divmod Exception ValueError TypeError KeyError IndexError LookupError
    ZeroDivisionError ArithmeticError OverflowError RuntimeError NotImplementedError AttributeError
    StopIteration""".split()
METHODS = """append clear copy count endswith extend find get index insert isalnum isalpha isdigit islower isspace
    isupper items join keys ljust lower lstrip partition pop remove replace reverse rfind rjust rpartition rsplit
    rstrip setdefault split splitlines startswith strip update upper values zfill bit_length""".split()
WORDS = """type typing typing_extensions enum Enum IntEnum StrEnum Flag IntFlag Generic Protocol ABC ABCMeta
    namedtuple NamedTuple TypedDict TYPE_CHECKING abstractmethod""".split()
VALUES = ("m", "held")


def sources():
    return [(path, path.read_text(encoding="utf-8")) for path in sorted(FOLDER.glob("*.py"))]


def nodes(kind):
    return [node for path, text in sources() for node in ast.walk(ast.parse(text)) if isinstance(node, kind)]


class Form(unittest.TestCase):
    def test_files(self):
        names = [path.name for path in FOLDER.iterdir() if path.name != "__pycache__"]
        self.assertEqual(sorted(names), ["__init__.py", "claims.py"])

    def test_signs_and_sizes(self):
        for path, text in sources():
            rows = text.split("\n")
            self.assertLessEqual(len(rows), 400)
            self.assertLessEqual(max(len(row) for row in rows), 120)
            self.assertRegex(text, r"\A[ -~\n]*\Z")
        for node in nodes(ast.FunctionDef):
            self.assertLessEqual(node.end_lineno - node.lineno + 1, 40, node.name)

    def test_words(self):
        for path, text in sources():
            for word in re.findall(r"\w+", text):
                self.assertNotIn(word, WORDS)
                self.assertNotRegex(word, "dataclass|overload|contextmanager")

    def test_kinds_of_node(self):
        for node in nodes(ast.AST):
            self.assertIsInstance(node, STATEMENTS + EXPRESSIONS + SIGNS)
            self.assertNotIsInstance(node, NOT_USED)

    def test_nothing_is_imported(self):
        self.assertEqual(nodes((ast.Import, ast.ImportFrom)), [])

    def test_names(self):
        for node in nodes(ast.Name):
            self.assertRegex(node.id, r"\A[A-Za-z][A-Za-z0-9_]*\Z")
            if hasattr(builtins, node.id):
                self.assertIn(node.id, OWN_NAMES)
                self.assertIsInstance(node.ctx, ast.Load)
        for node in nodes(ast.arg):
            self.assertFalse(hasattr(builtins, node.arg), node.arg)
            self.assertIsNone(node.annotation)

    def test_functions(self):
        for node in nodes(ast.FunctionDef):
            self.assertEqual(node.decorator_list, [])
            self.assertIsNone(node.args.vararg)
            self.assertIsNone(node.args.kwarg)
            self.assertEqual(node.args.kwonlyargs + node.args.posonlyargs, [])

    def test_methods_and_values(self):
        for node in nodes(ast.Attribute):
            self.assertIn(node.attr, METHODS + list(VALUES))

    def test_powers_and_texts(self):
        for node in nodes(ast.BinOp):
            self.assertNotIsInstance(node.op, ast.Pow)
        for node in nodes(ast.Constant):
            self.assertIsInstance(node.value, (int, str))
            if isinstance(node.value, str):
                self.assertNotIn("%", node.value)

    def test_the_top_of_each_file(self):
        for path, text in sources():
            names = []
            for node in ast.parse(text).body:
                self.assertIsInstance(node, (ast.Expr, ast.Assign, ast.FunctionDef, ast.ClassDef))
                if isinstance(node, ast.Assign):
                    names.append(node.targets[0].id)
                    self.assertIsInstance(node.value, (ast.Constant, ast.UnaryOp, ast.Tuple))
                elif isinstance(node, ast.Expr):
                    self.assertIsInstance(node.value, ast.Constant)
                else:
                    names.append(node.name)
            self.assertEqual(len(names), len(set(names)))
            for node in nodes(ast.Name):
                if isinstance(node.ctx, ast.Store) and node.col_offset > 0:
                    self.assertNotIn(node.id, names)

    def test_comprehensions_and_sets(self):
        for node in nodes(ast.ListComp):
            self.assertEqual(len(node.generators), 1)
            self.assertLessEqual(len(node.generators[0].ifs), 1)
        for node in nodes(ast.Name):
            self.assertNotIn(node.id, ("set", "frozenset"))

    def test_loops_and_assignments(self):
        for node in nodes((ast.For, ast.While)):
            self.assertEqual(node.orelse, [])
        for node in nodes(ast.Assign):
            self.assertEqual(len(node.targets), 1)


if __name__ == "__main__":
    unittest.main()

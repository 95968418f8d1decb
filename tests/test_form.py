"""The package keeps to the small part of Python that it is written in (L1 to L28, as far as a test can see)."""

import ast
import builtins
import pathlib
import re
import unittest

PACKAGE = pathlib.Path(__file__).resolve().parent.parent / "cabinets"

OWN_NAMES = set("""len range enumerate zip min max sum abs sorted reversed int str bool list tuple dict set frozenset
    isinstance ord repr any all divmod Exception ValueError TypeError KeyError IndexError LookupError
    ZeroDivisionError ArithmeticError OverflowError RuntimeError NotImplementedError AttributeError
    StopIteration""".split())
METHODS = set("""append clear copy count endswith extend find get index insert isalnum isalpha isdigit islower isspace
    isupper items join keys ljust lower lstrip partition pop remove replace reverse rfind rjust rpartition rsplit
    rstrip setdefault split splitlines startswith strip update upper values zfill bit_length""".split())
NOT_USED = set("""register mro elements open input version_info with_traceback add_note attrgetter breakpoint builtins
    compile copyright credits delattr dir eval exec exit gc getattr globals hasattr help id importlib license locals
    methodcaller os quit setattr super type vars sys""".split())
NO_WORDS = re.compile(r"\b(type|typing|typing_extensions|enum|Enum|IntEnum|StrEnum|Flag|IntFlag|Generic|Protocol|ABC|"
                      r"ABCMeta|namedtuple|NamedTuple|TypedDict|TYPE_CHECKING|abstractmethod)\b"
                      r"|dataclass|overload|contextmanager")
NO_NODES = (ast.With, ast.Match, ast.Delete, ast.Global, ast.Nonlocal, ast.Assert, ast.Yield, ast.YieldFrom, ast.Await,
            ast.AsyncFunctionDef, ast.AsyncFor, ast.AsyncWith, ast.SetComp, ast.DictComp, ast.GeneratorExp,
            ast.NamedExpr, ast.Starred, ast.Div, ast.MatMult, ast.Set, ast.Import)


def sources():
    return sorted(PACKAGE.rglob("*.py"))


def nodes():
    for path in sources():
        for node in ast.walk(ast.parse(path.read_text("utf-8"))):
            yield path.name, node


class Form(unittest.TestCase):
    def test_files(self):
        names = [path.name for path in PACKAGE.iterdir() if path.name != "__pycache__"]
        self.assertIn("__init__.py", names)
        for name in names:
            self.assertRegex(name, r"\A(__init__|[a-z][a-z0-9_]*)\.py\Z")

    def test_signs_rows_and_words(self):
        for path in sources():
            text = path.read_bytes().decode("utf-8")
            self.assertRegex(text, r"\A[ -~\n]*\Z", path.name)
            rows = text.split("\n")
            self.assertLessEqual(len(rows), 400, path.name)
            self.assertLessEqual(max(len(row) for row in rows), 120, path.name)
            self.assertIsNone(NO_WORDS.search(text), path.name)

    def test_the_top_of_a_file(self):
        for path in sources():
            bound = []
            for node in ast.parse(path.read_text("utf-8")).body:
                if isinstance(node, ast.FunctionDef):
                    bound.append(node.name)
                elif isinstance(node, ast.Assign):
                    ast.literal_eval(node.value)
                    bound.append(node.targets[0].id)
                else:
                    # A docstring and nothing else: the interface says that nothing is imported.
                    self.assertIsInstance(node, ast.Expr, path.name)
                    self.assertIsInstance(node.value.value, str, path.name)
            self.assertEqual(len(bound), len(set(bound)), path.name)

    def test_functions(self):
        for name, node in nodes():
            if isinstance(node, ast.FunctionDef):
                self.assertLessEqual(node.end_lineno - node.lineno + 1, 40, node.name)
                self.assertEqual(node.decorator_list, [], node.name)
                told = node.args
                self.assertFalse(told.vararg or told.kwarg or told.kwonlyargs or told.posonlyargs, node.name)

    def test_statements_and_values(self):
        for name, node in nodes():
            where = (name, getattr(node, "lineno", None), ast.dump(node)[:60])
            self.assertNotIsInstance(node, NO_NODES, where)
            if isinstance(node, (ast.For, ast.While)):
                self.assertEqual(node.orelse, [], where)
            if isinstance(node, ast.Assign):
                self.assertEqual(len(node.targets), 1, where)
                self.assertNotIsInstance(node.targets[0], (ast.Tuple, ast.List), where)
            if isinstance(node, ast.Constant):
                self.assertNotIsInstance(node.value, (float, bytes, complex), where)
            if isinstance(node, ast.BinOp) and isinstance(node.op, ast.Pow):
                self.assertIsInstance(node.right, ast.Constant, where)
            if isinstance(node, ast.ListComp):
                self.assertEqual(len(node.generators), 1, where)
                self.assertLessEqual(len(node.generators[0].ifs), 1, where)
            if isinstance(node, ast.Compare):
                self.assertFalse([op for op in node.ops if isinstance(op, (ast.Is, ast.IsNot))], where)

    def test_walked_at_once_and_no_sets(self):
        for path in sources():
            tree = list(ast.walk(ast.parse(path.read_text("utf-8"))))
            walked = [node.iter.func for node in tree
                      if isinstance(node, (ast.For, ast.comprehension)) and isinstance(node.iter, ast.Call)]
            for node in tree:
                if isinstance(node, ast.Name) and node.id in ("range", "zip", "enumerate", "reversed"):
                    self.assertIn(node, walked, (path.name, node.lineno))
                if isinstance(node, ast.Name):
                    self.assertNotIn(node.id, ("set", "frozenset"), (path.name, node.lineno))

    def test_names(self):
        for name, node in nodes():
            if isinstance(node, ast.Attribute):
                self.assertIn(node.attr, METHODS, name)
            bound = None
            if isinstance(node, ast.FunctionDef):
                bound = node.name
            elif isinstance(node, ast.arg):
                bound = node.arg
            elif isinstance(node, ast.Name) and isinstance(node.ctx, ast.Store):
                bound = node.id
            elif isinstance(node, ast.Name):
                self.assertTrue(node.id in OWN_NAMES or not hasattr(builtins, node.id), (name, node.id))
            if bound is not None:
                self.assertRegex(bound, r"\A[A-Za-z][A-Za-z0-9_]*\Z", name)
                self.assertFalse(hasattr(builtins, bound) or bound in NOT_USED, (name, bound))


if __name__ == "__main__":
    unittest.main()

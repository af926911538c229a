"""The package keeps to the small part of Python that it is to be written in, as far as a look at its rows can tell."""

import ast
import builtins
import pathlib
import re
import unittest

PACKAGE = pathlib.Path(__file__).resolve().parent.parent / "wouldrather"
BUILT_IN = set("""len range enumerate zip min max sum abs sorted reversed int str bool list tuple dict set frozenset
isinstance ord repr any all divmod Exception ValueError TypeError KeyError IndexError LookupError ZeroDivisionError
ArithmeticError OverflowError RuntimeError NotImplementedError AttributeError StopIteration True False None""".split())
PYTHONS_METHODS = set("""append clear copy count endswith extend find get index insert isalnum isalpha isdigit islower
isspace isupper items join keys ljust lower lstrip partition pop remove replace reverse rfind rjust rpartition rsplit
rstrip setdefault split splitlines startswith strip update upper values zfill bit_length""".split())
WORDS_OUT = re.compile(r"\b(type|typing|typing_extensions|enum|Enum|IntEnum|StrEnum|Flag|IntFlag|Generic|Protocol|ABC|"
                       r"ABCMeta|namedtuple|NamedTuple|TypedDict|TYPE_CHECKING|abstractmethod)\b|dataclass|overload|"
                       r"contextmanager")
NODES_OUT = (ast.With, ast.Match, ast.Delete, ast.Global, ast.Nonlocal, ast.Assert, ast.Yield, ast.YieldFrom, ast.Await,
             ast.AsyncFunctionDef, ast.AsyncFor, ast.AsyncWith, ast.SetComp, ast.DictComp, ast.GeneratorExp,
             ast.NamedExpr, ast.Starred, ast.Div, ast.MatMult, ast.Import, ast.AnnAssign, ast.Set)
WALKED = ("zip", "enumerate", "reversed", "range")
KEEPS_TO_WALK = ("list", "tuple", "dict", "sorted", "sum", "any", "all", "enumerate", "zip", "min", "max")
FILES = sorted(PACKAGE.glob("*.py"))


def parsed():
    found = []
    for path in FILES:
        text = path.read_text(encoding="utf-8")
        found.append((path, text, ast.parse(text)))
    return found


def bound_names(tree):
    found = []
    for node in ast.walk(tree):
        if isinstance(node, ast.Name) and isinstance(node.ctx, ast.Store):
            found.append(node.id)
        elif isinstance(node, ast.arg):
            found.append(node.arg)
        elif isinstance(node, (ast.FunctionDef, ast.ClassDef)):
            found.append(node.name)
        elif isinstance(node, ast.ImportFrom):
            found += [one.asname or one.name for one in node.names]
    return found


class Language(unittest.TestCase):
    def test_files(self):
        self.assertIn("__init__.py", [path.name for path in FILES])
        left = [path.name for path in PACKAGE.iterdir() if path not in FILES and path.name != "__pycache__"]
        self.assertEqual(left, [])
        for path in FILES:
            self.assertRegex(path.name, r"^(__init__|[a-z][a-z0-9_]*)\.py$")

    def test_signs_and_size(self):
        for path, text, tree in parsed():
            self.assertRegex(text, r"\A[ -~\n]*\Z", path.name)
            self.assertLessEqual(len(text.splitlines()), 400)
            self.assertLessEqual(max(len(row) for row in text.splitlines()), 120)
            self.assertIsNone(WORDS_OUT.search(text), path.name)
            for node in ast.walk(tree):
                if isinstance(node, ast.FunctionDef):
                    self.assertLessEqual(node.end_lineno - node.lineno + 1, 40, path.name)

    def test_no_statement_or_expression_that_is_out(self):
        for path, text, tree in parsed():
            for node in ast.walk(tree):
                self.assertNotIsInstance(node, NODES_OUT, path.name)
                if isinstance(node, ast.Assign):
                    self.assertEqual(len(node.targets), 1)
                    self.assertNotIsInstance(node.targets[0], ast.Tuple)
                if isinstance(node, (ast.For, ast.While)):
                    self.assertEqual(node.orelse, [])
                if isinstance(node, ast.ListComp):
                    self.assertEqual(len(node.generators), 1)
                    self.assertLessEqual(len(node.generators[0].ifs), 1)
                if isinstance(node, ast.Constant):
                    self.assertIn(node.value.__class__, (int, str, bool, type(None)))
                if isinstance(node, ast.BinOp) and isinstance(node.op, ast.Pow):
                    self.assertIsInstance(node.right, ast.Constant)

    def test_top_of_each_file(self):
        for path, text, tree in parsed():
            self.assertIsNotNone(ast.get_docstring(tree))
            for node in tree.body[1:]:
                self.assertIsInstance(node, (ast.ImportFrom, ast.FunctionDef, ast.ClassDef, ast.Assign))
                if isinstance(node, ast.Assign):
                    ast.literal_eval(node.value)
                if isinstance(node, ast.FunctionDef):
                    self.assertEqual(node.decorator_list, [])
                    self.assertIsNone(node.args.vararg or node.args.kwarg)

    def test_imports_come_from_the_file_that_defines_the_name(self):
        defined = {path.stem: {name for node in ast.parse(path.read_text()).body if not isinstance(node, ast.ImportFrom)
                               for name in bound_names(node)} for path in FILES}
        drawn = {}
        for path, text, tree in parsed():
            for node in ast.walk(tree):
                if isinstance(node, ast.ImportFrom):
                    self.assertEqual((node.level, node.module.split(".")[0]), (0, "wouldrather"))
                    source = node.module.split(".")[1]
                    drawn.setdefault(path.stem, set()).add(source)
                    for one in node.names:
                        self.assertIn(one.name, defined[source])
                        self.assertGreater(len(re.findall(rf"\b{one.name}\b", text)), 1, one.name)
        for start in drawn:
            reached = set(drawn[start])
            while not reached >= set().union(*[drawn.get(name, set()) for name in reached]):
                reached |= set().union(*[drawn.get(name, set()) for name in reached])
            self.assertNotIn(start, reached)

    def test_names(self):
        for path, text, tree in parsed():
            own = set(bound_names(tree))
            taken = {one.name for node in tree.body if isinstance(node, ast.ImportFrom) for one in node.names}
            self.assertEqual(own & set(dir(builtins)), set(), path.name)
            top = [name for node in tree.body if not isinstance(node, (ast.FunctionDef, ast.ClassDef))
                   for name in bound_names(node)] + [node.name for node in tree.body if hasattr(node, "name")]
            self.assertEqual(len(top), len(set(top)))
            for node in ast.walk(tree):
                if isinstance(node, ast.Name):
                    self.assertIn(node.id, own | BUILT_IN, path.name)
                    if isinstance(node.ctx, ast.Store):
                        self.assertNotIn(node.id, taken)
                if isinstance(node, ast.arg):
                    self.assertNotIn(node.arg, taken)
            for name in own - {"__init__"}:
                self.assertRegex(name, r"^[A-Za-z][A-Za-z0-9_]*$")

    def test_methods_and_values(self):
        methods, values, called = set(), set(), set()
        for path, text, tree in parsed():
            for node in ast.walk(tree):
                if isinstance(node, ast.ClassDef):
                    methods |= {one.name for one in node.body if isinstance(one, ast.FunctionDef)}
                if isinstance(node, ast.Attribute) and isinstance(node.ctx, ast.Store):
                    values.add(node.attr)
                if isinstance(node, ast.Call) and isinstance(node.func, ast.Attribute):
                    called.add(node.func.attr)
        self.assertEqual(methods & values, set())
        self.assertLessEqual(called, methods | PYTHONS_METHODS)
        for value in (0, "", [], {}, (), set(), b""):
            self.assertEqual((methods | values) & set(dir(value)) - {"__init__"}, set())

    def test_walked_at_once(self):
        for path, text, tree in parsed():
            right = set()
            for node in ast.walk(tree):
                if isinstance(node, (ast.For, ast.comprehension)):
                    right.add(node.iter)
                if isinstance(node, ast.Call) and isinstance(node.func, ast.Name) and node.func.id in KEEPS_TO_WALK:
                    right |= set(node.args)
            for node in ast.walk(tree):
                if isinstance(node, ast.Call) and isinstance(node.func, ast.Name) and node.func.id in WALKED:
                    self.assertIn(node, right, f"{path.name}, row {node.lineno}")


if __name__ == "__main__":
    unittest.main()

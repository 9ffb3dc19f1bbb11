"""The package keeps to its part of Python, as far as the rules can be seen from the outside; [0.1] no clock, chance, files."""

import ast
import builtins
import pathlib
import re
import unittest

PACKAGE = pathlib.Path(__file__).resolve().parent.parent / "flowstack"
FILES = sorted(path for path in PACKAGE.rglob("*") if path.is_file() and path.suffix != ".pyc")

BUILTINS = set("""
    len range enumerate zip min max sum abs sorted reversed int str bool list tuple dict set frozenset isinstance ord
    repr any all divmod ValueError KeyError IndexError LookupError ZeroDivisionError StopIteration Exception
    NotImplementedError RuntimeError ArithmeticError OverflowError TypeError
""".split())

METHODS = set("""
    append clear copy count endswith extend find get index insert isalnum isalpha isdigit islower isspace isupper items
    join keys ljust lower lstrip partition pop remove replace reverse rfind rjust rpartition rsplit rstrip setdefault
    split splitlines startswith strip update upper values zfill bit_length
""".split())

OUT_WORDS = re.compile(
    r"\b(type|typing|typing_extensions|enum|Enum|IntEnum|StrEnum|Flag|IntFlag|Generic|Protocol|ABC|ABCMeta"
    r"|namedtuple|NamedTuple|TypedDict|TYPE_CHECKING|abstractmethod)\b|dataclass|overload|contextmanager"
)

OUT_NAMES = {"register", "mro", "elements", "open", "input", "version_info", "with_traceback", "add_note", "sys", "os"}

OUT_NODES = (
    ast.With, ast.Match, ast.Delete, ast.Global, ast.Nonlocal, ast.Assert, ast.Yield, ast.YieldFrom, ast.Await,
    ast.AsyncFunctionDef, ast.SetComp, ast.DictComp, ast.GeneratorExp, ast.NamedExpr, ast.Starred, ast.Div,
    ast.Import, ast.AnnAssign,
)

WALKED = {"range", "zip", "enumerate", "reversed", "items", "keys", "values"}
WALKING = {"list", "tuple", "dict", "sorted", "sum", "any", "all", "enumerate", "zip", "min", "max"}

OWN_DUNDERS = {"__init__", "__eq__", "__repr__", "__str__", "__len__"}


def nodes(kind):
    """Each node of a kind in the package, with its file."""
    for path in FILES:
        for node in ast.walk(ast.parse(path.read_text())):
            if isinstance(node, kind):
                yield path.name, node


class TestFiles(unittest.TestCase):
    def test_names_of_files(self):
        self.assertIn("__init__.py", [path.name for path in FILES])
        for path in FILES:
            self.assertRegex(path.name, r"^([a-z][a-z0-9_]*|__init__)\.py$")

    def test_signs_and_sizes(self):
        for path in FILES:
            text = path.read_bytes()
            self.assertTrue(all(sign == 10 or 32 <= sign <= 126 for sign in text), path)
            lines = text.decode().split("\n")
            self.assertLessEqual(len(lines), 400, path)
            self.assertLessEqual(max(len(line) for line in lines), 120, path)

    def test_words_that_stand_nowhere(self):
        for path in FILES:
            self.assertIsNone(OUT_WORDS.search(path.read_text()), path)

    def test_imports_are_the_package_s_own(self):
        for name, node in nodes(ast.ImportFrom):
            self.assertEqual(node.level, 0, name)
            self.assertTrue(node.module.startswith("flowstack."), name)
            self.assertNotIn("*", [alias.name for alias in node.names])


    def test_imports_come_from_the_file_that_defines_the_name(self):
        for name, node in nodes(ast.ImportFrom):
            drawn = PACKAGE / (node.module.split(".")[1] + ".py")
            for alias in node.names:
                self.assertIn(alias.name, names_at_the_top(drawn), name)

    def test_no_two_files_draw_from_one_another(self):
        drawn = {path.stem: set() for path in FILES}
        for name, node in nodes(ast.ImportFrom):
            drawn[name[:-len(".py")]].add(node.module.split(".")[1])
        while drawn:
            free = [stem for stem in drawn if not drawn[stem] & set(drawn)]
            self.assertNotEqual(free, [], drawn)
            drawn = {stem: others for stem, others in drawn.items() if stem not in free}

    def test_the_top_of_each_file(self):
        """A docstring, imports, functions, classes and plain values, each name bound once."""
        for path in FILES:
            names = names_at_the_top(path)
            self.assertEqual(len(names), len(set(names)), path)
            body = ast.parse(path.read_text()).body
            self.assertIsInstance(body[0], ast.Expr)
            for part in body[1:]:
                self.assertIsInstance(part, (ast.ImportFrom, ast.FunctionDef, ast.ClassDef, ast.Assign), path)
                if isinstance(part, ast.Assign):
                    ast.literal_eval(part.value)


def names_at_the_top(path):
    names = []
    for part in ast.parse(path.read_text()).body:
        if isinstance(part, (ast.FunctionDef, ast.ClassDef)):
            names.append(part.name)
        elif isinstance(part, ast.Assign):
            names.append(part.targets[0].id)
    return names


class TestCode(unittest.TestCase):
    def test_no_node_that_is_out(self):
        self.assertEqual([(name, ast.dump(node)) for name, node in nodes(OUT_NODES)], [])

    def test_values(self):
        for name, node in nodes(ast.Constant):
            self.assertIn(node.value.__class__, (int, str, bool, type(None)), name)
            if isinstance(node.value, str):
                self.assertNotIn("%", node.value, name)

    def test_functions(self):
        for name, node in nodes(ast.FunctionDef):
            self.assertLessEqual(node.end_lineno - node.lineno + 1, 40, name)
            self.assertEqual(node.decorator_list, [])
            self.assertEqual((node.args.vararg, node.args.kwarg, node.args.kwonlyargs), (None, None, []))

    def test_classes(self):
        for name, node in nodes(ast.ClassDef):
            self.assertLessEqual(len(node.bases), 1)
            self.assertEqual(node.decorator_list, [])
            for part in node.body:
                is_docstring = isinstance(part, ast.Expr) and isinstance(part.value, ast.Constant)
                self.assertTrue(is_docstring or isinstance(part, (ast.FunctionDef, ast.Pass)), name)

    def test_assignments_and_loops(self):
        for name, node in nodes(ast.Assign):
            self.assertEqual(len(node.targets), 1, name)
            self.assertIsInstance(node.targets[0], (ast.Name, ast.Attribute, ast.Subscript), name)
        for name, node in nodes((ast.For, ast.While)):
            self.assertEqual(node.orelse, [], name)

    def test_names(self):
        for name, node in nodes(ast.Name):
            self.check_name(node.id)
            if node.id in dir(builtins):
                self.assertIn(node.id, BUILTINS, name)
                self.assertIsInstance(node.ctx, ast.Load, name)
        for name, node in nodes(ast.arg):
            self.check_name(node.arg)
            self.assertNotIn(node.arg, dir(builtins), name)
        for name, node in nodes((ast.FunctionDef, ast.ClassDef)):
            if node.name not in OWN_DUNDERS:
                self.check_name(node.name)

    def check_name(self, name):
        self.assertRegex(name, r"^[A-Za-z][A-Za-z0-9_]*$")
        self.assertNotIn(name, OUT_NAMES)

    def test_is_stands_beside_none_and_truths_alone(self):
        for name, node in nodes(ast.Compare):
            for part, other in zip(node.ops, node.comparators):
                if isinstance(part, (ast.Is, ast.IsNot)):
                    self.assertIn(getattr(other, "value", "another"), (None, True, False), name)

    def test_what_is_walked_at_once(self):
        """A range and its like stand behind an `in` or straight in a call that walks them."""
        walked = set()
        for _, node in nodes((ast.For, ast.comprehension)):
            walked.add(ast.dump(node.iter))
        for _, node in nodes(ast.Call):
            if isinstance(node.func, ast.Name) and node.func.id in WALKING and node.args:
                walked.add(ast.dump(node.args[0]))
        for name, node in nodes(ast.Call):
            called = getattr(node.func, "id", getattr(node.func, "attr", None))
            if called in WALKED:
                self.assertIn(ast.dump(node), walked, name)

    def test_powers_have_written_exponents(self):
        for name, node in nodes(ast.BinOp):
            if isinstance(node.op, ast.Pow):
                self.assertIsInstance(node.right, ast.Constant, name)

    def test_no_keywords_but_at_sorted_and_its_like(self):
        for name, node in nodes(ast.Call):
            if node.keywords:
                self.assertIn(getattr(node.func, "id", None), ("sorted", "min", "max", "sum", "enumerate", "zip"), name)

    def test_raised_errors_are_made_on_the_spot(self):
        for name, node in nodes(ast.Raise):
            self.assertIsInstance(node.exc, ast.Call, name)

    def test_methods_and_values(self):
        methods = {part.name for _, node in nodes(ast.ClassDef) for part in node.body if isinstance(part, ast.FunctionDef)}
        values = {node.attr for _, node in nodes(ast.Attribute) if isinstance(node.ctx, ast.Store)}
        self.assertEqual(methods & values, set())
        for name, node in nodes(ast.Attribute):
            self.assertIn(node.attr, methods | values | METHODS, name)
            self.assertNotIn(node.attr, OUT_NAMES, name)


if __name__ == "__main__":
    unittest.main()

"""Holds the package's files against those rules of the language that can be read off them."""

import ast
import builtins
import pathlib
import re
import unittest

PACKAGE = pathlib.Path(__file__).resolve().parent.parent / "timebonds"

BUILT_IN = set(
    "len range enumerate zip min max sum abs sorted reversed int str bool list tuple dict set frozenset isinstance "
    "ord repr any all divmod Exception ValueError TypeError KeyError IndexError LookupError ZeroDivisionError "
    "ArithmeticError OverflowError RuntimeError NotImplementedError AttributeError StopIteration".split()
)
METHODS = set(
    "append clear copy count endswith extend find get index insert isalnum isalpha isdigit islower isspace isupper "
    "items join keys ljust lower lstrip partition pop remove replace reverse rfind rjust rpartition rsplit rstrip "
    "setdefault split splitlines startswith strip update upper values zfill bit_length".split()
)
WORDS_OUT = re.compile(
    r"\b(type|typing|typing_extensions|enum|Enum|IntEnum|StrEnum|Flag|IntFlag|Generic|Protocol|ABC|ABCMeta|namedtuple"
    r"|NamedTuple|TypedDict|TYPE_CHECKING|abstractmethod)\b|dataclass|overload|contextmanager"
)
NODES_OUT = (
    ast.With, ast.Match, ast.Delete, ast.Global, ast.Nonlocal, ast.Assert, ast.Yield, ast.YieldFrom, ast.Await,
    ast.AsyncFor, ast.AsyncFunctionDef, ast.AsyncWith, ast.SetComp, ast.DictComp, ast.GeneratorExp, ast.NamedExpr,
    ast.Starred, ast.Div, ast.Import, ast.AnnAssign,
)


def sources():
    return sorted(PACKAGE.rglob("*.py"))


def own_methods(tree):
    return {
        inner.name
        for node in ast.walk(tree) if isinstance(node, ast.ClassDef)
        for inner in node.body if isinstance(inner, ast.FunctionDef)
    }


class Files(unittest.TestCase):
    def test_nothing_but_sources_lies_in_the_package(self):
        others = [
            path for path in PACKAGE.rglob("*")
            if path.is_file() and path.suffix != ".py" and "__pycache__" not in path.parts
        ]
        self.assertEqual(others, [])
        self.assertIn(PACKAGE / "__init__.py", sources())

    def test_signs_and_sizes(self):
        for path in sources():
            with self.subTest(path=path.name):
                text = path.read_bytes().decode("ascii")
                self.assertIsNone(re.search(r"[^\n -~]", text))
                rows = text.splitlines()
                self.assertLessEqual(len(rows), 400)
                self.assertLessEqual(max(len(row) for row in rows), 120)

    def test_words_that_stand_nowhere(self):
        for path in sources():
            with self.subTest(path=path.name):
                self.assertIsNone(WORDS_OUT.search(path.read_text()))


class Forms(unittest.TestCase):
    def each_node(self, *kinds):
        """Each node of these kinds in the package, and where it stands."""
        for path in sources():
            for node in ast.walk(ast.parse(path.read_text())):
                if isinstance(node, kinds):
                    yield node, f"{path.name}:{getattr(node, 'lineno', '')}"

    def test_only_the_package_itself_is_drawn_from(self):
        for node, where in self.each_node(ast.ImportFrom):
            self.assertEqual(node.level, 0, where)
            self.assertTrue(node.module.startswith("timebonds."), where)
            self.assertTrue((PACKAGE.parent / (node.module.replace(".", "/") + ".py")).is_file(), where)

    def test_no_clock_chance_or_files(self):
        for node, where in self.each_node(ast.Name):
            if hasattr(builtins, node.id):
                self.assertIn(node.id, BUILT_IN, where)
                self.assertIsInstance(node.ctx, ast.Load, where)

    def test_forms_that_are_out(self):
        self.assertEqual([where for node, where in self.each_node(*NODES_OUT)], [])
        for node, where in self.each_node(ast.For, ast.While):
            self.assertEqual(node.orelse, [], where)
        for node, where in self.each_node(ast.Try):
            self.assertEqual(node.finalbody, [], where)
        for node, where in self.each_node(ast.Assign):
            self.assertEqual(len(node.targets), 1, where)
        for node, where in self.each_node(ast.Constant):
            self.assertNotIsInstance(node.value, (float, bytes, complex), where)

    def test_functions_are_small_and_plain(self):
        for node, where in self.each_node(ast.FunctionDef, ast.ClassDef):
            self.assertEqual(node.decorator_list, [], where)
        for node, where in self.each_node(ast.FunctionDef):
            self.assertLessEqual(node.end_lineno - node.lineno + 1, 40, where)
            self.assertIsNone(node.args.vararg, where)
            self.assertIsNone(node.args.kwarg, where)
            self.assertEqual(node.args.kwonlyargs, [], where)

    def test_names_are_plain(self):
        named = [(node.id, where) for node, where in self.each_node(ast.Name)]
        named += [(node.attr, where) for node, where in self.each_node(ast.Attribute)]
        for node, where in self.each_node(ast.arg):
            named.append((node.arg, where))
            self.assertFalse(hasattr(builtins, node.arg), where)
        for name, where in named:
            self.assertRegex(name, r"^([A-Za-z][A-Za-z0-9_]*|__init__)$", where)

    def test_methods_of_pythons_own_values(self):
        own = set()
        for path in sources():
            own |= own_methods(ast.parse(path.read_text()))
        for node, where in self.each_node(ast.Call):
            if isinstance(node.func, ast.Attribute):
                self.assertIn(node.func.attr, METHODS | own, where)


class Names(unittest.TestCase):
    def test_no_two_files_draw_from_one_another(self):
        drawn = {
            f"timebonds.{path.stem}": {
                node.module for node in ast.walk(ast.parse(path.read_text())) if isinstance(node, ast.ImportFrom)
            }
            for path in sources()
        }
        while drawn:
            free = [module for module, others in drawn.items() if not others & set(drawn)]
            self.assertNotEqual(free, [], f"a ring of imports among {sorted(drawn)}")
            for module in free:
                drawn.pop(module)

    def test_names_come_from_the_file_that_defines_them(self):
        for path in sources():
            for node in ast.walk(ast.parse(path.read_text())):
                if isinstance(node, ast.ImportFrom):
                    source = PACKAGE.parent / (node.module.replace(".", "/") + ".py")
                    defined = [top.name for top in ast.parse(source.read_text()).body if hasattr(top, "name")]
                    for alias in node.names:
                        self.assertIn(alias.name, defined, path.name)
                        self.assertIsNone(alias.asname, path.name)

    def test_nothing_is_a_method_here_and_a_value_there(self):
        methods, values = set(), set()
        for path in sources():
            tree = ast.parse(path.read_text())
            methods |= own_methods(tree)
            values |= {
                node.attr for node in ast.walk(tree)
                if isinstance(node, ast.Attribute) and isinstance(node.ctx, ast.Store)
            }
        self.assertEqual(methods & values, set())

    def test_no_local_is_called_like_a_class_or_an_import_of_its_file(self):
        for path in sources():
            nodes = list(ast.walk(ast.parse(path.read_text())))
            taken = {node.name for node in nodes if isinstance(node, ast.ClassDef)}
            taken |= {alias.name for node in nodes if isinstance(node, ast.ImportFrom) for alias in node.names}
            local = {node.id for node in nodes if isinstance(node, ast.Name) and isinstance(node.ctx, ast.Store)}
            local |= {node.arg for node in nodes if isinstance(node, ast.arg)}
            self.assertEqual(local & taken, set(), path.name)

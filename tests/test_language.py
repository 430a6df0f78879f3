"""The package's own files keep to the small part of Python that the program is written in."""

import ast
import pathlib
import re
import unittest

PACKAGE = pathlib.Path(__file__).resolve().parent.parent / "twotrees"
BUILTINS = set("""len range enumerate zip min max sum abs sorted reversed int str bool list tuple dict set frozenset
isinstance ord repr any all divmod Exception ValueError TypeError KeyError IndexError LookupError ZeroDivisionError
ArithmeticError OverflowError RuntimeError NotImplementedError AttributeError StopIteration""".split())
METHODS = set("""append clear copy count endswith extend find get index insert isalnum isalpha isdigit islower isspace
isupper items join keys ljust lower lstrip partition pop remove replace reverse rfind rjust rpartition rsplit rstrip
setdefault split splitlines startswith strip update upper values zfill bit_length""".split())
NO_WORDS = """type typing typing_extensions enum Enum IntEnum StrEnum Flag IntFlag Generic Protocol ABC ABCMeta
namedtuple NamedTuple TypedDict TYPE_CHECKING abstractmethod""".split()
NO_NAMES = set("""register mro elements open input version_info with_traceback add_note attrgetter breakpoint builtins
compile copyright credits delattr dir eval exec exit gc getattr globals hasattr help id importlib license locals
methodcaller os quit setattr super type vars sys""".split())
NO_NODES = (ast.With, ast.Match, ast.Delete, ast.Global, ast.Nonlocal, ast.Assert, ast.Yield, ast.YieldFrom, ast.Await,
            ast.AsyncFunctionDef, ast.AsyncFor, ast.AsyncWith, ast.SetComp, ast.DictComp, ast.GeneratorExp,
            ast.NamedExpr, ast.Starred, ast.Set, ast.Import, ast.AnnAssign, ast.Div, ast.Try, ast.MatMult)
PYTHONS_OWN = set(dir(__builtins__) if not isinstance(__builtins__, dict) else __builtins__)


def files():
    return sorted(PACKAGE.glob("*"))


def trees():
    return [(path.name, ast.parse(path.read_text())) for path in files() if path.suffix == ".py"]


def bound_names(tree):
    """Parameters and locals, with their functions' targets."""
    found = set()
    for node in ast.walk(tree):
        if isinstance(node, ast.arg):
            found.add(node.arg)
        if isinstance(node, ast.Name) and isinstance(node.ctx, ast.Store):
            found.add(node.id)
    return found


def imported_names(tree):
    return {alias.name for node in ast.walk(tree) if isinstance(node, ast.ImportFrom) for alias in node.names}


def is_plain(node):
    if isinstance(node, (ast.Tuple, ast.List)):
        return all(is_plain(part) for part in node.elts)
    if isinstance(node, ast.Dict):
        return all(is_plain(part) for part in node.keys + node.values)
    if isinstance(node, ast.UnaryOp):
        return isinstance(node.op, ast.USub) and is_plain(node.operand)
    return isinstance(node, ast.Constant) and isinstance(node.value, (int, str, bool, None.__class__))


class Language(unittest.TestCase):
    def test_files(self):
        names = [path.name for path in files() if path.name != "__pycache__"]
        self.assertIn("__init__.py", names)
        for name in names:
            self.assertRegex(name, r"^(__init__|[a-z][a-z0-9_]*)\.py$")
        for path in files():
            if path.suffix == ".py":
                text = path.read_text()
                self.assertLessEqual(len(text.splitlines()), 400, path.name)
                self.assertRegex(text, r"\A[\n -~]*\Z", path.name)
                self.assertLessEqual(max(len(line) for line in text.splitlines()), 120, path.name)
                for word in NO_WORDS:
                    self.assertIsNone(re.search(r"\b" + word + r"\b", text), (path.name, word))
                self.assertIsNone(re.search("dataclass|overload|contextmanager", text), path.name)

    def test_sizes_of_functions(self):
        for name, tree in trees():
            for node in ast.walk(tree):
                if isinstance(node, ast.FunctionDef):
                    self.assertLessEqual(node.end_lineno - node.lineno + 1, 40, (name, node.name))
                    self.assertEqual(node.decorator_list, [])
                    self.assertIsNone(node.args.vararg or node.args.kwarg)
                    self.assertEqual(node.args.kwonlyargs, [])

    def test_statements_and_expressions(self):
        for name, tree in trees():
            for node in ast.walk(tree):
                at = (name, getattr(node, "lineno", None))
                self.assertNotIsInstance(node, NO_NODES, at)
                if isinstance(node, ast.Assign):
                    self.assertEqual(len(node.targets), 1, at)
                    self.assertNotIsInstance(node.targets[0], (ast.Tuple, ast.List), at)
                if isinstance(node, (ast.For, ast.While)):
                    self.assertEqual(node.orelse, [], at)
                if isinstance(node, ast.ListComp):
                    self.assertEqual(len(node.generators), 1, at)
                    self.assertLessEqual(len(node.generators[0].ifs), 1, at)
                if isinstance(node, ast.Constant):
                    self.assertIsInstance(node.value, (int, str, None.__class__), at)
                    self.assertFalse(isinstance(node.value, str) and "%" in node.value, at)
                if isinstance(node, ast.Compare) and any(isinstance(op, (ast.Is, ast.IsNot)) for op in node.ops):
                    self.assertIn(repr(node.comparators[0].value), ("None", "True", "False"), at)
                if isinstance(node, ast.BinOp) and isinstance(node.op, ast.Pow):
                    self.assertIsInstance(node.right, ast.Constant, at)

    def test_top_of_files(self):
        for name, tree in trees():
            self.assertIsNotNone(ast.get_docstring(tree), name)
            bound = []
            for node in tree.body[1:]:
                self.assertIsInstance(node, (ast.ImportFrom, ast.FunctionDef, ast.ClassDef, ast.Assign), name)
                if isinstance(node, ast.Assign):
                    self.assertTrue(is_plain(node.value), (name, node.lineno))
                    bound.append(node.targets[0].id)
                elif not isinstance(node, ast.ImportFrom):
                    bound.append(node.name)
            self.assertEqual(len(bound), len(set(bound)), name)

    def test_imports(self):
        draws = {}
        for name, tree in trees():
            module = "twotrees." + name[:-3]
            draws[module] = set()
            for node in ast.walk(tree):
                if isinstance(node, ast.ImportFrom):
                    self.assertEqual(node.level, 0, name)
                    self.assertRegex(node.module, r"^twotrees\.[a-z]+$", name)
                    self.assertIn(node, tree.body, name)
                    source = ast.parse((PACKAGE / (node.module.split(".")[1] + ".py")).read_text())
                    defined = {getattr(part, "name", None) for part in source.body}
                    defined |= {part.targets[0].id for part in source.body if isinstance(part, ast.Assign)}
                    for alias in node.names:
                        self.assertIn(alias.name, defined, name)
                        self.assertIsNone(alias.asname, name)
                    draws[module].add(node.module)
        while draws:
            free = [module for module in draws if not draws[module] & set(draws)]
            self.assertNotEqual(free, [], "files draw from one another")
            for module in free:
                draws.pop(module)

    def test_names(self):
        for name, tree in trees():
            bound = bound_names(tree)
            defined = {node.name for node in ast.walk(tree) if isinstance(node, (ast.FunctionDef, ast.ClassDef))}
            imported = imported_names(tree)
            classes = {node.name for node in tree.body if isinstance(node, ast.ClassDef)}
            self.assertEqual(bound & (PYTHONS_OWN | imported | classes), set(), name)
            self.assertEqual({one for one in bound if one.startswith("_")}, set(), name)
            self.assertEqual({one for one in defined if one.startswith("_")} - {"__init__"}, set(), name)
            for node in ast.walk(tree):
                if isinstance(node, ast.Name):
                    self.assertNotIn(node.id, NO_NAMES, (name, node.lineno))
                    self.assertIn(node.id, bound | defined | imported | BUILTINS, (name, node.lineno))
                if isinstance(node, ast.Attribute):
                    self.assertNotIn(node.attr, NO_NAMES | {"format", "format_map"}, (name, node.lineno))

    def test_methods_and_values(self):
        methods = set()
        values = set()
        for name, tree in trees():
            for node in ast.walk(tree):
                if isinstance(node, ast.ClassDef):
                    self.assertEqual(node.decorator_list, [], name)
                    own = [part.name for part in node.body if isinstance(part, ast.FunctionDef)]
                    self.assertEqual(len(own), len(set(own)), (name, node.name))
                    methods |= set(own)
                if isinstance(node, ast.Attribute) and isinstance(node.ctx, ast.Store):
                    values.add(node.attr)
        self.assertEqual(methods & values, set())
        taken = {attr for value in ("", 0, [], {}, set(), b"") for attr in dir(value)}
        self.assertEqual((methods | values) & taken - {"__init__"}, set())
        for name, tree in trees():
            for node in ast.walk(tree):
                if isinstance(node, ast.Call) and isinstance(node.func, ast.Attribute):
                    self.assertIn(node.func.attr, methods | METHODS, (name, node.lineno))

    def test_sets_stand_in_sorted_alone(self):
        for name, tree in trees():
            inside = [part for node in ast.walk(tree) if isinstance(node, ast.Call)
                      and getattr(node.func, "id", "") in ("sorted", "len") for part in node.args]
            for node in ast.walk(tree):
                if isinstance(node, ast.Call) and getattr(node.func, "id", "") == "set":
                    self.assertIn(node, inside, (name, node.lineno))

    def test_walked_at_once(self):
        for name, tree in trees():
            walked = []
            for node in ast.walk(tree):
                if isinstance(node, (ast.For, ast.comprehension)):
                    walked.append(node.iter)
                if isinstance(node, ast.Call) and getattr(node.func, "id", "") in (
                        "list", "tuple", "dict", "sorted", "sum", "any", "all", "enumerate", "zip", "min", "max"):
                    walked += node.args[:1]
            for node in ast.walk(tree):
                if isinstance(node, ast.Call):
                    called = getattr(node.func, "id", getattr(node.func, "attr", ""))
                    if called in ("zip", "enumerate", "reversed", "range", "items", "keys", "values"):
                        self.assertIn(node, walked, (name, node.lineno))


if __name__ == "__main__":
    unittest.main()

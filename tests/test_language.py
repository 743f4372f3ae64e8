"""The rules of the language that a reading of the package's files can check."""

import ast
import builtins
import pathlib
import unittest

PACKAGE = pathlib.Path(__file__).resolve().parent.parent / "toldproducts"
FILES = sorted(PACKAGE.glob("*.py"))

BUILTINS = set("""len range enumerate zip min max sum abs sorted reversed int str bool list tuple dict set isinstance ord
repr any all divmod ValueError KeyError property""".split())
METHODS = set("""append clear copy count endswith extend find get index insert isalnum isalpha isdigit islower isspace
isupper items join keys ljust lower lstrip partition pop remove replace reverse rfind rjust rpartition rsplit rstrip
setdefault split splitlines startswith strip update upper values zfill bit_length add discard""".split())
LIBRARY = {"heapq": {"heappush", "heappop", "heapify"}, "math": {"gcd", "lcm", "isqrt", "comb", "perm", "factorial"},
           "itertools": {"product", "combinations", "permutations"}}
STATEMENTS = (ast.FunctionDef, ast.ClassDef, ast.Return, ast.Delete, ast.Assign, ast.AugAssign, ast.For, ast.While,
              ast.If, ast.Raise, ast.Try, ast.Assert, ast.ImportFrom, ast.Expr, ast.Pass, ast.Break, ast.Continue)
UNUSED = set("""register mro elements open input law version_info with_traceback add_note attrgetter breakpoint builtins
compile copyright credits delattr dir eval exec exit gc globals help id importlib license locals methodcaller os quit
vars sys super getattr setattr hasattr""".split())
WORDS = ("typing enum Enum IntEnum StrEnum Flag IntFlag Generic Protocol ABC ABCMeta namedtuple NamedTuple TypedDict "
         "TYPE_CHECKING abstractmethod dataclass overload contextmanager _wall _WallAttr").split()
SPECIAL = {"__init__", "__eq__", "__call__", "__repr__", "__str__", "__len__"}


def parsed(path):
    return ast.parse(path.read_text(encoding="ascii"))


def nodes(path, *kinds):
    return [node for node in ast.walk(parsed(path)) if isinstance(node, kinds)]


def bound_names(function):
    """The parameters and local variables of a function."""
    names = {argument.arg for argument in ast.walk(function.args) if isinstance(argument, ast.arg)}
    return names | {node.id for node in ast.walk(function)
                    if isinstance(node, ast.Name) and isinstance(node.ctx, ast.Store)}


class Language(unittest.TestCase):
    def test_files(self):
        self.assertTrue(FILES)
        others = [path.name for path in PACKAGE.iterdir() if path not in FILES and path.name != "__pycache__"]
        self.assertEqual(others, [])

    def test_sizes_and_signs(self):
        for path in FILES:
            text = path.read_text(encoding="utf-8")
            self.assertTrue(all(sign == "\n" or " " <= sign <= "~" for sign in text), path)
            lines = text.splitlines()
            self.assertLessEqual(len(lines), 399, path)
            self.assertLessEqual(max([len(line) for line in lines]), 120, path)
            for node in nodes(path, ast.FunctionDef):
                self.assertLessEqual(node.end_lineno - node.lineno + 1, 40, node.name)

    def test_words(self):
        for path in FILES:
            for word in path.read_text().replace("(", " ").replace(".", " ").split():
                self.assertNotIn(word, WORDS, path)

    def test_imports(self):
        for path in FILES:
            self.assertEqual(nodes(path, ast.Import), [])
            for node in nodes(path, ast.ImportFrom):
                self.assertEqual([node.level, [name.asname for name in node.names]], [0, [None] * len(node.names)])
                names = {name.name for name in node.names}
                if node.module in LIBRARY:
                    self.assertLessEqual(names, LIBRARY[node.module])
                else:
                    self.assertEqual(node.module.split(".")[0], "toldproducts")
                    defined = parsed(PACKAGE / (node.module.split(".")[1] + ".py")).body
                    self.assertLessEqual(names, {getattr(one, "name", None) for one in defined}
                                         | {target.id for one in defined if isinstance(one, ast.Assign)
                                            for target in one.targets})

    def test_imports_are_used_and_go_one_way(self):
        leads = {}
        for path in FILES:
            used = {node.id for node in nodes(path, ast.Name)}
            for node in nodes(path, ast.ImportFrom):
                self.assertLessEqual({name.name for name in node.names}, used, path)
                leads.setdefault(path.stem, set()).add(node.module.split(".")[-1])
        for _ in range(len(FILES)):
            leads = {name: set().union(others, *[leads.get(other, set()) for other in others])
                     for name, others in leads.items()}
        for name, others in leads.items():
            self.assertNotIn(name, others)

    def test_module_level(self):
        for path in FILES:
            for node in parsed(path).body:
                if isinstance(node, ast.Expr):
                    self.assertIsInstance(node.value, ast.Constant)
                elif isinstance(node, ast.Assign):
                    self.assertEqual([isinstance(target, ast.Name) for target in node.targets], [True])
                else:
                    self.assertIsInstance(node, (ast.ImportFrom, ast.FunctionDef, ast.ClassDef))

    def test_statements_and_expressions(self):
        for path in FILES:
            for node in nodes(path, ast.stmt):
                self.assertIsInstance(node, STATEMENTS, path)
            for kind in (ast.GeneratorExp, ast.Await, ast.Yield, ast.YieldFrom, ast.Div, ast.MatMult, ast.Set):
                self.assertEqual(nodes(path, kind), [], path)
            for node in nodes(path, ast.BinOp):
                if isinstance(node.op, ast.Pow):
                    self.assertIsInstance(node.right, ast.Constant)
                    self.assertIn(node.right.value, range(65))
            for node in nodes(path, ast.Compare):
                if isinstance(node.ops[0], (ast.Is, ast.IsNot)):
                    self.assertIn(getattr(node.comparators[0], "value", 0), (None, True, False))
            for node in nodes(path, ast.Raise):
                self.assertIsInstance(node.exc, ast.Call)
                self.assertIsInstance(node.exc.func, ast.Name)
            for node in nodes(path, ast.Constant):
                self.assertIsInstance(node.value, (int, str, bytes, bool, type(None)))
                self.assertNotIn("%", str(node.value))

    def test_builtins_and_methods(self):
        own = {node.name for path in FILES for node in nodes(path, ast.FunctionDef)}
        assigned = {node.attr for path in FILES for node in nodes(path, ast.Attribute) if isinstance(node.ctx, ast.Store)}
        for path in FILES:
            for node in nodes(path, ast.Name):
                if hasattr(builtins, node.id) and node.id != "_":
                    self.assertIn(node.id, BUILTINS, path)
            for node in nodes(path, ast.Attribute):
                self.assertIn(node.attr, own | assigned | METHODS, path)

    def test_names(self):
        for path in FILES:
            outer = {name.name for node in nodes(path, ast.ImportFrom) for name in node.names}
            outer |= {node.name for node in nodes(path, ast.ClassDef)}
            tops = [node.name for node in parsed(path).body if isinstance(node, (ast.FunctionDef, ast.ClassDef))]
            tops += [name.name for node in nodes(path, ast.ImportFrom) for name in node.names]
            self.assertEqual(len(tops), len(set(tops)), path)
            for node in nodes(path, ast.FunctionDef, ast.Lambda):
                names = bound_names(node)
                self.assertFalse(names & outer, (path, names & outer))
                for name in (names | {getattr(node, "name", "a")}) - {"_"}:
                    self.assertNotIn(name, UNUSED)
                    self.assertFalse(hasattr(builtins, name) and not name.startswith("__"), (path, name))
                    self.assertTrue(not name.startswith("__") or name in SPECIAL, (path, name))

    def test_decorators(self):
        for path in FILES:
            for node in nodes(path, ast.FunctionDef, ast.ClassDef):
                for decorator in node.decorator_list:
                    self.assertEqual(getattr(decorator, "id", None), "property")

"""The rules of the language that a plain look at the files of the package can test."""

import ast
import builtins
import unittest
from pathlib import Path

PACKAGE = Path(__file__).parent.parent / "kaleidorooms"
BUILTINS = set(
    "len range enumerate zip min max sum abs sorted reversed int str bool bytes list tuple dict set frozenset"
    " isinstance ord repr any all divmod pow Exception ValueError TypeError KeyError IndexError LookupError"
    " ZeroDivisionError ArithmeticError OverflowError RuntimeError NotImplementedError AttributeError"
    " StopIteration NotImplemented map iter next".split()
)
LIBRARY = {
    "heapq": {"heappush", "heappop", "heapify", "heapreplace", "heappushpop"},
    "math": {"gcd", "lcm", "isqrt", "comb", "perm", "factorial"},
    "itertools": set(
        "product combinations permutations chain accumulate pairwise islice zip_longest".split()
    ),
    "collections": {"defaultdict", "deque"},
}
BARRED_NAMES = set(
    "register mro elements open input law version_info with_traceback add_note type typing typing_extensions enum Enum"
    " IntEnum StrEnum Flag IntFlag Generic Protocol ABC ABCMeta namedtuple NamedTuple TypedDict TYPE_CHECKING"
    " abstractmethod attrgetter breakpoint builtins compile copyright credits delattr dir eval exec exit gc getattr"
    " globals hasattr help id importlib license locals methodcaller os quit setattr super vars sys".split()
)
METHODS = set(
    "append clear copy count endswith extend find get index insert isalnum isalpha isdigit islower isspace isupper"
    " items join keys ljust lower lstrip partition pop remove replace reverse rfind rjust rpartition rsplit rstrip"
    " setdefault split splitlines startswith strip update upper values zfill bit_length add discard".split()
)
STATEMENTS = (
    ast.Assign, ast.AugAssign, ast.If, ast.While, ast.For, ast.Return, ast.Break, ast.Continue, ast.Pass, ast.Raise,
    ast.Assert, ast.Delete, ast.Try, ast.Expr, ast.FunctionDef, ast.ClassDef, ast.ImportFrom,
)
BARRED_NODES = (
    ast.AsyncFunctionDef, ast.AsyncFor, ast.AsyncWith, ast.Await, ast.Global, ast.Div, ast.MatMult, ast.Lambda,
    ast.Import, ast.AnnAssign, ast.NamedExpr, ast.Starred, ast.JoinedStr, ast.Yield, ast.YieldFrom,
)


def parsed():
    """The files of the package with their texts and trees."""
    for file in sorted(PACKAGE.glob("*.py")):
        text = file.read_text()
        yield file, text, ast.parse(text)


def bound_names(function):
    """The parameters and local names of a function."""
    given = [one.arg for one in ast.walk(function.args) if isinstance(one, ast.arg)]
    stored = [one.id for one in ast.walk(function) if isinstance(one, ast.Name) and isinstance(one.ctx, ast.Store)]
    return given + stored


class Language(unittest.TestCase):
    def test_files(self):
        for path in PACKAGE.iterdir():
            if path.name != "__pycache__":
                self.assertEqual((".py", path.name.lower()), (path.suffix, path.name))

    def test_sizes_and_signs(self):
        for file, text, tree in parsed():
            lines = text.splitlines()
            self.assertLessEqual(len(lines), 399, file)
            for number, line in enumerate(lines, 1):
                self.assertLessEqual(len(line), 120, f"{file}:{number}")
                self.assertTrue(all(" " <= sign <= "~" for sign in line), f"{file}:{number}")
                self.assertNotIn("_wall", line, f"{file}:{number}")
            for node in ast.walk(tree):
                if isinstance(node, ast.FunctionDef):
                    self.assertLessEqual(node.end_lineno - node.lineno + 1, 40, f"{file}:{node.name}")

    def test_imports(self):
        seen = {}
        for file, _, tree in parsed():
            own = f"kaleidorooms.{file.stem}"
            seen[own] = []
            for node in ast.walk(tree):
                if not isinstance(node, ast.ImportFrom):
                    continue
                self.assertIn(node, tree.body)
                self.assertEqual(0, node.level)
                self.assertTrue(all(alias.asname is None for alias in node.names))
                names = {alias.name for alias in node.names}
                if node.module in LIBRARY:
                    self.assertLessEqual(names, LIBRARY[node.module])
                    continue
                seen[own].append(node.module)
                source = ast.parse((PACKAGE / (node.module.split(".")[1] + ".py")).read_text())
                defined = {one.name for one in source.body if isinstance(one, (ast.FunctionDef, ast.ClassDef))}
                defined |= {one.targets[0].id for one in source.body if isinstance(one, ast.Assign)}
                self.assertLessEqual(names, defined, file)
        self.no_rounds(seen)

    def no_rounds(self, seen):
        left = dict(seen)
        while left:
            free = [name for name, needed in left.items() if not any(one in left for one in needed)]
            self.assertTrue(free, sorted(left))
            for name in free:
                del left[name]

    def test_nodes(self):
        for file, _, tree in parsed():
            for node in ast.walk(tree):
                where = f"{file}:{getattr(node, 'lineno', 0)}"
                self.assertNotIsInstance(node, BARRED_NODES, where)
                if isinstance(node, ast.stmt):
                    self.assertIsInstance(node, STATEMENTS, where)
                if isinstance(node, ast.Constant):
                    self.assertNotIsInstance(node.value, (float, complex), where)
                if isinstance(node, (ast.FunctionDef, ast.ClassDef)):
                    allowed = [] if isinstance(node, ast.ClassDef) else [[], ["property"]]
                    self.assertIn([one.id for one in node.decorator_list], allowed or [[]], where)
                if isinstance(node, ast.Compare):
                    for operator, other in zip(node.ops, node.comparators):
                        if isinstance(operator, (ast.Is, ast.IsNot)):
                            self.assertIn(getattr(other, "value", 0), (None, True, False), where)

    def test_module_level(self):
        for file, _, tree in parsed():
            bound = []
            for at, node in enumerate(tree.body):
                where = f"{file}:{node.lineno}"
                if at == 0:
                    self.assertIsInstance(node.value.value, str, where)
                    continue
                self.assertIsInstance(node, (ast.ImportFrom, ast.Assign, ast.FunctionDef, ast.ClassDef), where)
                if isinstance(node, ast.Assign):
                    ast.literal_eval(node.value)
                    bound.append(node.targets[0].id)
                elif isinstance(node, ast.ImportFrom):
                    bound += [alias.name for alias in node.names]
                else:
                    bound.append(node.name)
                    self.assertIsNotNone(ast.get_docstring(node), where)
            self.assertEqual(len(bound), len(set(bound)), file)

    def test_names(self):
        for file, _, tree in parsed():
            top = {alias.name for node in tree.body if isinstance(node, ast.ImportFrom) for alias in node.names}
            top |= {node.name for node in tree.body if isinstance(node, (ast.FunctionDef, ast.ClassDef))}
            for node in ast.walk(tree):
                if isinstance(node, (ast.FunctionDef, ast.ClassDef)) and not node.name.startswith("__"):
                    self.assertFalse(hasattr(builtins, node.name), f"{file}:{node.name}")
                    self.assertNotIn(node.name, BARRED_NAMES, file)
                if isinstance(node, ast.FunctionDef):
                    for name in bound_names(node):
                        where = f"{file}:{node.name}:{name}"
                        self.assertFalse(hasattr(builtins, name) or name in BARRED_NAMES, where)
                        self.assertNotIn(name, top, where)
                        self.assertTrue(name == "_" or not name.startswith("_"), where)
                if isinstance(node, ast.Name) and hasattr(builtins, node.id):
                    self.assertIn(node.id, BUILTINS | {"property"}, f"{file}:{node.lineno}")

    def test_calls(self):
        taking_lists = {"any", "all", "min", "max", "sum", "sorted"}
        functions = [node for _, _, tree in parsed() for node in ast.walk(tree) if isinstance(node, ast.FunctionDef)]
        own = {node.name for node in functions}
        for file, _, tree in parsed():
            generated = [node for node in ast.walk(tree) if isinstance(node, ast.GeneratorExp)]
            for node in ast.walk(tree):
                if not isinstance(node, ast.Call):
                    continue
                where = f"{file}:{node.lineno}"
                if isinstance(node.func, ast.Attribute):
                    self.assertIn(node.func.attr, METHODS | own, where)
                    self.assertEqual([], node.keywords, where)
                elif node.func.id in taking_lists:
                    self.assertFalse(any(one in generated for one in node.args), where)

    def test_views_are_iterated_at_once(self):
        takers = {"list", "tuple", "dict", "sorted", "sum", "any", "all", "enumerate", "zip", "min", "max"}
        for file, _, tree in parsed():
            above = {child: node for node in ast.walk(tree) for child in ast.iter_child_nodes(node)}
            for node in ast.walk(tree):
                name = getattr(getattr(node, "func", None), "id", getattr(getattr(node, "func", None), "attr", None))
                if name not in {"range", "zip", "enumerate", "reversed", "items", "keys", "values"}:
                    continue
                user = above[node]
                where = f"{file}:{node.lineno}"
                if isinstance(user, (ast.For, ast.comprehension)):
                    self.assertIs(node, user.iter, where)
                else:
                    self.assertIsInstance(user, ast.Call, where)
                    self.assertIn(getattr(user.func, "id", None), takers, where)

    def test_strings(self):
        for file, _, tree in parsed():
            for node in ast.walk(tree):
                if isinstance(node, ast.Constant) and isinstance(node.value, str):
                    self.assertNotIn("%", node.value, f"{file}:{node.lineno}")

    def test_loops_leave_alone_what_they_go_over(self):
        changing = METHODS - {"count", "index", "get", "items", "keys", "values", "copy", "join"}
        for file, _, tree in parsed():
            for loop in [node for node in ast.walk(tree) if isinstance(node, ast.For)]:
                over = {one.id for one in ast.walk(loop.iter) if isinstance(one, ast.Name)}
                for node in [one for row in loop.body for one in ast.walk(row)]:
                    where = f"{file}:{getattr(node, 'lineno', 0)}"
                    if isinstance(node, ast.Name) and isinstance(node.ctx, ast.Store):
                        self.assertNotIn(node.id, over, where)
                    if isinstance(node, ast.Call) and isinstance(node.func, ast.Attribute):
                        if node.func.attr in changing and isinstance(node.func.value, ast.Name):
                            self.assertNotIn(node.func.value.id, over, where)


if __name__ == "__main__":
    unittest.main()

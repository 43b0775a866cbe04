"""Keeps the package inside the small language that it is written in."""

import ast
import builtins
import keyword
import os
import re
import unittest

ROOT = os.path.dirname(os.path.dirname(os.path.abspath(__file__)))
PACKAGE = os.path.join(ROOT, "alikeclash")

LIBRARY = {
    "math": {"gcd", "lcm", "isqrt", "comb", "perm", "factorial"},
    "heapq": {"heappush", "heappop", "heapify", "heapreplace", "heappushpop"},
    "itertools": {"product", "combinations", "permutations"},
}
BUILTINS = set(
    "len range enumerate zip min max sum abs sorted reversed int str bool bytes list tuple dict set"
    " isinstance ord repr any all divmod Exception ValueError TypeError KeyError IndexError LookupError"
    " ZeroDivisionError ArithmeticError OverflowError RuntimeError NotImplementedError".split()
)
METHODS = set(
    "append clear copy count endswith extend find get index insert isalnum isalpha isdigit islower isspace"
    " isupper items join keys ljust lower lstrip partition pop remove replace reverse rfind rjust rpartition"
    " rsplit rstrip setdefault split splitlines startswith strip update upper values zfill bit_length"
    " add discard".split()
)
# The name _ stands there only where examples have been run before.
TAKEN = set(dir(builtins)) - {"_"}
DUNDERS = {"__init__", "__eq__", "__repr__", "__str__", "__len__", "__call__", "__iter__"}
BARRED_NAMES = set(
    "register mro elements open input law version_info with_traceback add_note attrgetter breakpoint builtins"
    " compile copyright credits delattr dir eval exec exit gc getattr globals hasattr help id importlib license"
    " locals methodcaller os quit setattr super type vars sys".split()
)
BARRED_WORDS = re.compile(
    r"\b(type|typing|typing_extensions|enum|Enum|IntEnum|StrEnum|Flag|IntFlag|Generic|Protocol|ABC|ABCMeta"
    r"|namedtuple|NamedTuple|TypedDict|TYPE_CHECKING|abstractmethod)\b|dataclass|overload|contextmanager"
)
BARRED_NODES = (
    ast.Global, ast.AsyncFor, ast.AsyncFunctionDef, ast.AsyncWith, ast.Await, ast.Match, ast.With, ast.Yield,
    ast.YieldFrom, ast.GeneratorExp, ast.SetComp, ast.AnnAssign, ast.Div, ast.MatMult, ast.NamedExpr,
)
AT_ONCE = {"zip", "enumerate", "reversed", "range", "map"}
ITERATORS = {"list", "tuple", "dict", "sorted", "sum", "enumerate", "zip", "min", "max", "len", "reversed"}
KEYWORDS = {
    "sorted": {"key", "reverse"}, "min": {"key", "default"}, "max": {"key", "default"},
    "sum": {"start"}, "enumerate": {"start"}, "zip": {"strict"},
}


def sources():
    """The files of the package with their texts and trees."""
    for name in sorted(os.listdir(PACKAGE)):
        if name == "__pycache__":
            continue
        with open(os.path.join(PACKAGE, name), encoding="utf-8") as file:
            text = file.read()
        yield name, text, ast.parse(text)


def parents_of(tree):
    return {child: node for node in ast.walk(tree) for child in ast.iter_child_nodes(node)}


def bound_names(function):
    """All names that a function binds."""
    spec = function.args
    names = {arg.arg for arg in spec.posonlyargs + spec.args + spec.kwonlyargs}
    names |= {arg.arg for arg in (spec.vararg, spec.kwarg) if arg}
    for node in ast.walk(function):
        if isinstance(node, ast.Name) and isinstance(node.ctx, ast.Store):
            names.add(node.id)
        if isinstance(node, ast.ExceptHandler) and node.name:
            names.add(node.name)
    return names


def functions_of(tree):
    return [node for node in ast.walk(tree) if isinstance(node, ast.FunctionDef)]


class LanguageTest(unittest.TestCase):

    def wrong(self, name, node, rule):
        self.fail(f"{name}:{getattr(node, 'lineno', 0)}: {rule}")

    def test_files(self):
        names = [name for name, _, _ in sources()]
        self.assertLessEqual(len(names), 100)
        for name in names:
            self.assertRegex(name, r"\A[a-z0-9_]+\.py\Z")

    def test_sizes_and_characters(self):
        for name, text, tree in sources():
            lines = text.split("\n")
            self.assertLessEqual(len(lines) - 1, 399, name)
            self.assertTrue(all(sign == "\n" or " " <= sign <= "~" for sign in text), name)
            self.assertTrue(all(len(line) <= 120 and line == line.rstrip() for line in lines), name)
            for function in functions_of(tree):
                self.assertLessEqual(function.end_lineno - function.lineno + 1, 40, (name, function.name))

    def test_words(self):
        for name, text, tree in sources():
            docs = set()
            for node in ast.walk(tree):
                if isinstance(node, (ast.Module, ast.ClassDef, ast.FunctionDef)) and ast.get_docstring(node):
                    docs.add(node.body[0].value)
            for node in ast.walk(tree):
                if isinstance(node, ast.Constant) and isinstance(node.value, str):
                    self.assertNotIn("%", node.value, name)
                    if node not in docs:
                        self.assertFalse(BARRED_WORDS.search(node.value), (name, node.value))
                        self.assertFalse(node.value.startswith("__"), (name, node.value))
                if isinstance(node, ast.Constant):
                    self.assertNotIsInstance(node.value, (float, complex, bytes), name)
            self.assertNotRegex(text, r"_wall|_WallAttr|\\[^n\\\"']")

    def test_imports(self):
        graph = {}
        files = {name[:-3]: tree for name, _, tree in sources()}
        for module, tree in files.items():
            graph[module] = set()
            started = False
            for node in tree.body:
                if isinstance(node, ast.ImportFrom):
                    self.assertFalse(started, module)
                    self.assertEqual(node.level, 0)
                    self.assertTrue(all(alias.asname is None for alias in node.names), module)
                    imported = {alias.name for alias in node.names}
                    if node.module in LIBRARY:
                        self.assertLessEqual(imported, LIBRARY[node.module])
                        continue
                    self.assertTrue(node.module.startswith("alikeclash."), module)
                    source = node.module.split(".", 1)[1]
                    graph[module].add(source)
                    defined = {part.name for part in files[source].body if hasattr(part, "name")}
                    for part in files[source].body:
                        if isinstance(part, ast.Assign):
                            defined.add(part.targets[0].id)
                    self.assertLessEqual(imported, defined, module)
                elif not isinstance(node, ast.Expr):
                    started = True
            self.assertFalse([node for node in ast.walk(tree) if isinstance(node, ast.Import)])
        done = set()
        while len(done) < len(graph):
            ready = {module for module in graph if module not in done and graph[module] <= done}
            self.assertTrue(ready, "imports go in a circle")
            done |= ready

    def test_unused_imports(self):
        for name, _, tree in sources():
            used = {node.id for node in ast.walk(tree) if isinstance(node, ast.Name)}
            for node in tree.body:
                if isinstance(node, ast.ImportFrom):
                    for alias in node.names:
                        self.assertIn(alias.name, used, name)

    def test_module_level(self):
        for name, _, tree in sources():
            bound = []
            for node in tree.body:
                if isinstance(node, (ast.FunctionDef, ast.ClassDef)):
                    bound.append(node.name)
                elif isinstance(node, ast.ImportFrom):
                    bound.extend(alias.name for alias in node.names)
                elif isinstance(node, ast.Assign):
                    self.assertEqual(len(node.targets), 1)
                    self.assertIsInstance(node.targets[0], ast.Name)
                    bound.append(node.targets[0].id)
                    ast.literal_eval(node.value)
                else:
                    self.assertTrue(isinstance(node, ast.Expr) and isinstance(node.value, ast.Constant), name)
            self.assertEqual(len(bound), len(set(bound)), name)
            self.assertFalse(set(bound) & TAKEN, name)

    def test_nodes(self):
        for name, _, tree in sources():
            for node in ast.walk(tree):
                if isinstance(node, BARRED_NODES):
                    self.wrong(name, node, "this statement or expression is not in the language")
                if isinstance(node, ast.BinOp) and isinstance(node.op, ast.Pow):
                    self.wrong(name, node, "L27: a power")
                if isinstance(node, ast.Compare):
                    for op, right in zip(node.ops, node.comparators):
                        if isinstance(op, (ast.Is, ast.IsNot)) and not isinstance(right, ast.Constant):
                            self.wrong(name, node, "L20: is")
                if isinstance(node, ast.FunctionDef) and (node.decorator_list or node.returns):
                    self.wrong(name, node, "L4, L21: a decorator or an annotation")
                if isinstance(node, ast.arg) and node.annotation:
                    self.wrong(name, node, "L21: an annotation")
                if isinstance(node, ast.Raise) and not (node.exc is None or isinstance(node.exc, ast.Call)):
                    self.wrong(name, node, "L19: raise")

    def test_names(self):
        for name, _, tree in sources():
            top = {part.name for part in tree.body if isinstance(part, ast.ClassDef)}
            for part in tree.body:
                if isinstance(part, ast.ImportFrom):
                    top |= {alias.name for alias in part.names}
            for node in ast.walk(tree):
                if isinstance(node, ast.FunctionDef):
                    bound = bound_names(node)
                    self.assertFalse(bound & top, (name, node.name))
                    self.assertFalse(bound & TAKEN, (name, node.name))
                    self.assertFalse(bound & BARRED_NAMES, (name, node.name))
                    if node.name.startswith("__"):
                        self.assertIn(node.name, DUNDERS)
                    self.assertNotIn(node.name, BARRED_NAMES)
                if isinstance(node, ast.Attribute):
                    self.assertFalse(node.attr.startswith("__"), name)
                    self.assertFalse(keyword.issoftkeyword(node.attr), name)

    def test_names_that_are_read(self):
        for name, _, tree in sources():
            top = {part.name for part in tree.body if hasattr(part, "name")}
            for part in tree.body:
                if isinstance(part, ast.ImportFrom):
                    top |= {alias.name for alias in part.names}
                if isinstance(part, ast.Assign):
                    top.add(part.targets[0].id)
            for function in functions_of(tree):
                known = bound_names(function) | top | BUILTINS
                for node in ast.walk(function):
                    if isinstance(node, ast.Name) and isinstance(node.ctx, ast.Load):
                        self.assertIn(node.id, known, (name, node.lineno))
                        self.assertNotEqual(node.id, "_", (name, node.lineno))

    def test_calls(self):
        own = {node.name for _, _, tree in sources() for node in functions_of(tree)}
        for name, _, tree in sources():
            for node in ast.walk(tree):
                if not isinstance(node, ast.Call):
                    continue
                words = {part.arg for part in node.keywords}
                if isinstance(node.func, ast.Attribute):
                    self.assertTrue(node.func.attr in METHODS | own, (name, node.lineno, node.func.attr))
                    self.assertFalse(words, (name, node.lineno))
                    if node.func.attr == "join":
                        self.assertIsInstance(node.func.value, ast.Constant, (name, node.lineno))
                elif node.func.id in BUILTINS:
                    self.assertLessEqual(words, KEYWORDS.get(node.func.id, set()), (name, node.lineno))

    def test_iterated_at_once(self):
        for name, _, tree in sources():
            parents = parents_of(tree)
            for node in ast.walk(tree):
                if not isinstance(node, ast.Call):
                    continue
                if isinstance(node.func, ast.Name):
                    lazy = node.func.id in AT_ONCE
                else:
                    lazy = node.func.attr in ("items", "keys", "values")
                parent = parents[node]
                if isinstance(parent, (ast.For, ast.comprehension)):
                    lazy = lazy and parent.iter is not node
                elif isinstance(parent, ast.Call) and isinstance(parent.func, ast.Name):
                    lazy = lazy and parent.func.id not in ITERATORS
                if lazy:
                    self.wrong(name, node, "L23: not iterated at once")

    def test_sets(self):
        for name, _, tree in sources():
            parents = parents_of(tree)
            for node in ast.walk(tree):
                made = isinstance(node, ast.Set)
                made = made or isinstance(node, ast.Call) and isinstance(node.func, ast.Name) and node.func.id == "set"
                if not made:
                    continue
                parent = parents[node]
                while isinstance(parent, ast.BinOp):
                    parent = parents[parent]
                if isinstance(parent, ast.Call) and isinstance(parent.func, ast.Name):
                    self.assertIn(parent.func.id, ("sorted", "len"), (name, node.lineno))
                    self.assertFalse(parent.keywords, (name, node.lineno))
                else:
                    self.assertTrue(isinstance(parent, ast.Assign) and parent.value is node, (name, node.lineno))

    def test_stored_sets(self):
        for name, _, tree in sources():
            parents = parents_of(tree)
            for function in functions_of(tree):
                held = set()
                for node in ast.walk(function):
                    if isinstance(node, ast.Assign) and isinstance(node.value, ast.Call):
                        if isinstance(node.value.func, ast.Name) and node.value.func.id == "set":
                            held.add(node.targets[0].id)
                for node in ast.walk(function):
                    if isinstance(node, ast.Name) and node.id in held and isinstance(node.ctx, ast.Load):
                        parent = parents[node]
                        fine = isinstance(parent, ast.Attribute) and parent.attr in ("add", "discard")
                        fine = fine or isinstance(parent, ast.Compare) and parent.comparators[-1] is node
                        if isinstance(parent, ast.Call) and isinstance(parent.func, ast.Name):
                            fine = parent.func.id in ("len", "sorted")
                        if not fine:
                            self.wrong(name, node, "L24: a stored set")

    def test_handlers(self):
        for name, _, tree in sources():
            own = {"InvalidPaper", "Refused", "NotUsable", "InvalidEvent", "KeyError", "ZeroDivisionError"}
            for node in ast.walk(tree):
                if isinstance(node, ast.ExceptHandler):
                    self.assertIsInstance(node.type, ast.Name, name)
                    self.assertIn(node.type.id, own, name)


if __name__ == "__main__":
    unittest.main()

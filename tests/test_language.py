"""The rules of LANGUAGE.md that can be read off the text of a file; not all of them can."""

import ast
import re
import unittest
import warnings
from pathlib import Path

import sparehands

FOLDER = Path(sparehands.__file__).parent
LIBRARY = {
    "heapq": {"heappush", "heappop", "heapify", "heapreplace", "heappushpop"},
    "math": {"gcd", "lcm", "isqrt", "comb", "perm", "factorial"},
    "itertools": {
        "product", "combinations", "permutations", "chain", "accumulate", "pairwise", "islice", "zip_longest"},
    "collections": {"defaultdict", "deque"},
}
BUILTINS = set(
    "len range enumerate zip min max sum abs sorted reversed int str bool list tuple dict set isinstance ord repr any"
    " all divmod map Exception ValueError TypeError KeyError IndexError LookupError NotImplemented".split())
METHODS = set(
    "append clear copy count endswith extend find get index insert isalnum isalpha isdigit islower isspace isupper"
    " items join keys ljust lower lstrip partition pop remove replace reverse rfind rjust rpartition rsplit rstrip"
    " setdefault split splitlines startswith strip update upper values zfill bit_length add discard popleft".split())
AT_ONCE = ("zip", "enumerate", "reversed", "range", "items", "keys", "values", "map")
TAKE_AT_ONCE = ("list", "tuple", "dict", "sorted", "sum", "any", "all", "enumerate", "zip", "min", "max", "len")
CHANGES = set(
    "append clear extend insert pop remove reverse setdefault update add discard sort appendleft popleft".split())
STATEMENTS = (
    ast.Assign, ast.AugAssign, ast.If, ast.While, ast.For, ast.Return, ast.Break, ast.Continue, ast.Pass, ast.Raise,
    ast.Assert, ast.Delete, ast.Try, ast.Expr, ast.FunctionDef, ast.ClassDef, ast.ImportFrom)
WORDS = (
    "type typing typing_extensions enum Enum IntEnum StrEnum Flag IntFlag Generic Protocol ABC ABCMeta namedtuple"
    " NamedTuple TypedDict TYPE_CHECKING abstractmethod register mro elements open input law version_info").split()


def files():
    return sorted(path for path in FOLDER.rglob("*") if "__pycache__" not in path.parts)


def trees():
    for path in files():
        yield path, ast.parse(path.read_text(encoding="utf-8"))


def names_given(tree):
    """All names that a file gives a meaning, with the lines."""
    for node in ast.walk(tree):
        if isinstance(node, ast.Name) and isinstance(node.ctx, ast.Store):
            yield node.id, node.lineno
        elif isinstance(node, (ast.FunctionDef, ast.ClassDef)):
            yield node.name, node.lineno
        elif isinstance(node, ast.arg):
            yield node.arg, node.lineno
        elif isinstance(node, ast.alias):
            yield node.asname or node.name, node.lineno


def called(node):
    """The name of the function or method that is called."""
    return node.func.attr if isinstance(node.func, ast.Attribute) else getattr(node.func, "id", None)


def own_methods():
    found = set()
    for _, tree in trees():
        for node in ast.walk(tree):
            if isinstance(node, ast.ClassDef):
                found |= {row.name for row in node.body if isinstance(row, ast.FunctionDef)}
    return found


class Files(unittest.TestCase):
    def test_names(self):
        self.assertIn(FOLDER / "__init__.py", files())
        for path in files():
            self.assertRegex(path.name, r"^([a-z][a-z0-9_]*|__init__)\.py$")

    def test_text(self):
        for path in files():
            text = path.read_bytes().decode("ascii")
            lines = text.split("\n")
            self.assertNotRegex(text, "[^ -~\n]", path)
            self.assertLessEqual(len(lines), 399, path)
            self.assertLessEqual(max(len(line) for line in lines), 120, path)
            self.assertNotRegex(text, r"_wall|_WallAttr|dataclass|overload|contextmanager", path)
            for found in re.findall(r"\b__\w+", text):
                self.assertIn(found, ("__init__", "__eq__", "__len__", "__repr__", "__str__"), path)

    def test_no_warnings(self):
        for path in files():
            with warnings.catch_warnings():
                warnings.simplefilter("error")
                compile(path.read_text(encoding="utf-8"), str(path), "exec")


class Code(unittest.TestCase):
    def each(self, kind):
        for path, tree in trees():
            for node in ast.walk(tree):
                if isinstance(node, kind):
                    yield node, f"{path.name}:{getattr(node, 'lineno', '')}"

    def test_statements(self):
        for node, where in self.each(ast.stmt):
            self.assertIsInstance(node, STATEMENTS, where)

    def test_expressions_that_are_left_out(self):
        left_out = (
            ast.GeneratorExp, ast.Yield, ast.YieldFrom, ast.Await, ast.NamedExpr, ast.Div, ast.MatMult, ast.JoinedStr)
        for node, where in self.each(left_out):
            self.fail(f"{where} {node}")

    def test_values(self):
        for node, where in self.each(ast.Constant):
            self.assertNotIsInstance(node.value, (float, complex, bytes), where)
            if isinstance(node.value, str):
                self.assertNotIn("%", node.value, where)
                self.assertNotIn("\\", node.value, where)

    def test_module_level(self):
        for path, tree in trees():
            given = [row.name for row in tree.body if isinstance(row, (ast.FunctionDef, ast.ClassDef))]
            for at, row in enumerate(tree.body):
                where = f"{path.name}:{row.lineno}"
                if isinstance(row, ast.Expr):
                    self.assertTrue(at == 0 and isinstance(row.value, ast.Constant), where)
                elif isinstance(row, ast.Assign):
                    self.assertTrue(len(row.targets) == 1 and isinstance(row.targets[0], ast.Name), where)
                    self.assertFalse([x for x in ast.walk(row.value) if isinstance(x, (ast.Call, ast.comprehension))])
                    given.append(row.targets[0].id)
                elif isinstance(row, ast.ImportFrom):
                    given += [alias.name for alias in row.names]
                else:
                    self.assertIsInstance(row, (ast.FunctionDef, ast.ClassDef), where)
            self.assertEqual(len(given), len(set(given)), path)

    def test_imports(self):
        for path, tree in trees():
            ended = False
            for row in tree.body[1:]:
                ended = ended or not isinstance(row, ast.ImportFrom)
                self.assertFalse(ended and isinstance(row, ast.ImportFrom), path)
        for node, where in self.each(ast.ImportFrom):
            self.assertEqual(node.level, 0, where)
            for alias in node.names:
                self.assertIsNone(alias.asname, where)
                if node.module not in LIBRARY:
                    self.assertRegex(node.module, r"^sparehands\.[a-z]+$", where)
                    self.assertIn(alias.name, self.defined(node.module), where)
                else:
                    self.assertIn(alias.name, LIBRARY[node.module], where)

    def defined(self, module):
        tree = ast.parse((FOLDER / (module.split(".")[1] + ".py")).read_text(encoding="utf-8"))
        names = [row.name for row in tree.body if isinstance(row, (ast.FunctionDef, ast.ClassDef))]
        return names + [row.targets[0].id for row in tree.body if isinstance(row, ast.Assign)]

    def test_no_files_import_from_each_other(self):
        needs = {}
        for path, tree in trees():
            rows = [row.module for row in tree.body if isinstance(row, ast.ImportFrom)]
            needs[path.stem] = {row.split(".")[1] for row in rows if row not in LIBRARY}
        self.assertEqual(needs["__init__"], set())
        while needs:
            free = [name for name in needs if not needs[name] & set(needs)]
            self.assertTrue(free, sorted(needs))
            needs = {name: needs[name] for name in needs if name not in free}

    def test_functions(self):
        for node, where in self.each(ast.FunctionDef):
            self.assertLessEqual(node.end_lineno - node.lineno + 1, 40, where)
            self.assertEqual(node.decorator_list, [], where)
            self.assertFalse(node.args.vararg or node.args.kwarg or node.args.posonlyargs or node.args.kwonlyargs, where)
            self.assertIsNotNone(ast.get_docstring(node) or node.name.startswith("__") or None, where)

    def test_names_given(self):
        # A doctest in the same run may have left a value under the name _.
        builtins = set(dir(__builtins__) if not isinstance(__builtins__, dict) else __builtins__) - {"_"}
        for path, tree in trees():
            top = set()
            for row in tree.body:
                if isinstance(row, ast.ClassDef):
                    top.add(row.name)
                elif isinstance(row, ast.ImportFrom):
                    top |= {alias.name for alias in row.names}
            inner = [
                name for row in tree.body if isinstance(row, (ast.FunctionDef, ast.ClassDef))
                for part in ast.iter_child_nodes(row) for name, _ in names_given(part)]
            self.assertFalse(top & set(inner), path)
            for name, line in names_given(tree):
                self.assertNotIn(name, WORDS, f"{path.name}:{line}")
                self.assertNotIn(name, builtins, f"{path.name}:{line}")

    def test_names_used(self):
        for path, tree in trees():
            given = {name for name, _ in names_given(tree)}
            for node in ast.walk(tree):
                if isinstance(node, ast.Name) and isinstance(node.ctx, ast.Load):
                    self.assertTrue(node.id in given or node.id in BUILTINS, f"{path.name}:{node.lineno} {node.id}")
                    self.assertNotEqual(node.id, "_", f"{path.name}:{node.lineno}")

    def test_methods(self):
        methods = METHODS | own_methods()
        for node, where in self.each(ast.Call):
            if isinstance(node.func, ast.Attribute):
                self.assertIn(node.func.attr, methods, where)
            else:
                self.assertIsInstance(node.func, ast.Name, where)

    def test_is(self):
        for node, where in self.each(ast.Compare):
            for sign, other in zip(node.ops, node.comparators):
                if isinstance(sign, (ast.Is, ast.IsNot)):
                    self.assertTrue(isinstance(other, ast.Constant) and other.value in (None, True, False), where)

    def test_keywords_of_builtins(self):
        allowed = {
            "sorted": {"key", "reverse"}, "min": {"key", "default"}, "max": {"key", "default"},
            "sum": {"start"}, "enumerate": {"start"}, "zip": {"strict"}}
        for node, where in self.each(ast.Call):
            if isinstance(node.func, ast.Name) and node.func.id in BUILTINS:
                self.assertLessEqual({word.arg for word in node.keywords}, allowed.get(node.func.id, set()), where)
            elif isinstance(node.func, ast.Attribute) and node.func.attr in METHODS:
                self.assertFalse(node.keywords, where)

    def test_what_is_iterated_at_once(self):
        for path, tree in trees():
            up = {child: node for node in ast.walk(tree) for child in ast.iter_child_nodes(node)}
            for node in ast.walk(tree):
                if isinstance(node, ast.Call) and called(node) in AT_ONCE:
                    above = up[node]
                    iterated = isinstance(above, (ast.For, ast.comprehension)) and above.iter is node
                    taken = isinstance(above, ast.Call) and called(above) in TAKE_AT_ONCE
                    self.assertTrue(iterated or taken, f"{path.name}:{node.lineno}")

    def test_nothing_is_changed_while_it_is_iterated(self):
        for node, where in self.each(ast.For):
            gone_over = {name.id for name in ast.walk(node.iter) if isinstance(name, ast.Name)}
            for part in [inner for row in node.body for inner in ast.walk(row)]:
                if isinstance(part, ast.Call) and isinstance(part.func, ast.Attribute) and part.func.attr in CHANGES:
                    self.assertNotIn(ast.unparse(part.func.value), gone_over, where)
                elif isinstance(part, ast.Subscript) and not isinstance(part.ctx, ast.Load):
                    self.assertNotIn(ast.unparse(part.value), gone_over, where)
                elif isinstance(part, ast.AugAssign):
                    self.assertNotIn(ast.unparse(part.target), gone_over, where)

    def test_names_of_methods_and_attributes(self):
        methods = own_methods()
        builtin = {name for kind in (str, int, list, dict, set, bytes, tuple) for name in dir(kind)}
        for node, where in self.each(ast.Attribute):
            if isinstance(node.ctx, ast.Store):
                self.assertNotIn(node.attr, methods, where)
                self.assertNotIn(node.attr, builtin, where)
        self.assertFalse({name for name in methods if not name.startswith("__")} & builtin)

    def test_attributes_that_are_read_are_assigned(self):
        assigned = {node.attr for node, _ in self.each(ast.Attribute) if isinstance(node.ctx, ast.Store)}
        for path, tree in trees():
            called_there = {node.func for node in ast.walk(tree) if isinstance(node, ast.Call)}
            for node in ast.walk(tree):
                if isinstance(node, ast.Attribute) and isinstance(node.ctx, ast.Load) and node not in called_there:
                    self.assertIn(node.attr, assigned, f"{path.name}:{node.lineno}")

    def test_double_underscore_methods(self):
        for node, where in self.each(ast.FunctionDef):
            rows = [row for row in ast.walk(node) if isinstance(row, ast.Return)]
            if node.name == "__init__":
                self.assertEqual(rows, [], where)
            elif node.name.startswith("__"):
                self.assertEqual([type(row) for row in node.body], [ast.Return], where)
            if node.name == "__len__":
                self.assertEqual(called(rows[0].value), "len", where)

    def test_errors(self):
        own = [node.name for node, _ in self.each(ast.ClassDef)]
        for node, where in self.each(ast.Raise):
            self.assertIsInstance(node.exc, ast.Call, where)
            self.assertIn(called(node.exc), own, where)
            self.assertFalse(node.exc.keywords, where)

    def test_sets(self):
        for path, tree in trees():
            up = {child: node for node in ast.walk(tree) for child in ast.iter_child_nodes(node)}
            for node in ast.walk(tree):
                made = isinstance(node, ast.Call) and isinstance(node.func, ast.Name) and node.func.id == "set"
                if made or isinstance(node, (ast.Set, ast.SetComp)):
                    self.assertTrue(self.set_may_stand(node, up[node]), f"{path.name}:{node.lineno}")

    def set_may_stand(self, node, above):
        if isinstance(above, ast.Call) and isinstance(above.func, ast.Name):
            return above.func.id in ("sorted", "len") and above.args == [node] and not above.keywords
        if isinstance(above, ast.Compare):
            return isinstance(above.ops[0], (ast.In, ast.NotIn, ast.Eq, ast.NotEq))
        return isinstance(above, ast.Assign) and isinstance(above.targets[0], ast.Name)

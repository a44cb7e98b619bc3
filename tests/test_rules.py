"""Some of the rules L1 to L28 for the package's code, here and there stricter than they are: what a test can see."""

import ast
import builtins
import pathlib
import re
import unittest

PACKAGE = pathlib.Path(__file__).resolve().parent.parent / "sparesum"

LIBRARY = {
    "heapq": "heappush heappop heapify heapreplace heappushpop", "math": "gcd lcm isqrt comb perm factorial",
    "itertools": "product combinations permutations chain accumulate pairwise islice zip_longest",
    "collections": "defaultdict deque",
}
BUILTINS = """len range enumerate zip min max sum abs sorted reversed int str bool list tuple dict set isinstance ord repr
any all divmod map iter next ValueError KeyError StopIteration NotImplemented""".split()
METHODS = """append clear copy count endswith extend find get index insert isalnum isalpha isdigit islower isspace isupper
items join keys ljust lower lstrip partition pop remove replace reverse rfind rjust rpartition rsplit rstrip setdefault
split splitlines startswith strip update upper values zfill bit_length add discard sort isascii isdecimal""".split()
BARRED = """register mro elements open input law version_info with_traceback add_note type typing enum Enum Flag Generic
Protocol ABC namedtuple NamedTuple TypedDict dir eval exec exit gc help id vars locals globals os quit compile""".split()
DOUBLE = """__init__ __eq__ __repr__ __str__ __len__ __lt__ __le__ __gt__ __ge__ __iter__ __call__ __contains__""".split()


def files():
    return sorted(PACKAGE.rglob("*.py"))


def tree_of(path):
    return ast.parse(path.read_text())


def functions_of(tree):
    return [node for node in ast.walk(tree) if isinstance(node, ast.FunctionDef)]


def bound_names(tree):
    """The names that a module binds at its own level, in order."""
    out = []
    for node in tree.body:
        if isinstance(node, (ast.FunctionDef, ast.ClassDef)):
            out.append(node.name)
        elif isinstance(node, ast.ImportFrom):
            out.extend(alias.asname or alias.name for alias in node.names)
        elif isinstance(node, ast.Assign):
            out.extend(target.id for target in node.targets)
    return out


def docstrings(tree):
    owners = [node for node in ast.walk(tree) if isinstance(node, (ast.Module, ast.ClassDef, ast.FunctionDef))]
    return [id(node.body[0].value) for node in owners if ast.get_docstring(node) is not None]


class Rules(unittest.TestCase):
    def each(self, kind):
        for path in files():
            for node in ast.walk(tree_of(path)):
                if isinstance(node, kind):
                    yield node, f"{path.name}:{getattr(node, 'lineno', '')}"

    def test_files(self):
        for path in PACKAGE.rglob("*"):
            if path.is_dir() or "__pycache__" in path.parts:
                continue
            self.assertRegex(path.name, r"^(__init__|__main__|[a-z][a-z0-9_]*)\.py$")
            self.assertNotIn(path.stem, dir(builtins))
            self.assertTrue((path.parent / "__init__.py").exists())
        self.assertLessEqual(len(files()), 100)

    def test_sizes_and_characters(self):
        for path in files():
            text = path.read_text()
            lines = text.splitlines()
            self.assertLessEqual(len(lines), 399, path.name)
            self.assertLessEqual(max(len(line) for line in lines), 120, path.name)
            self.assertTrue(all(sign == "\n" or " " <= sign <= "~" for sign in text), path.name)
        for node, where in self.each(ast.FunctionDef):
            self.assertLessEqual(node.end_lineno - node.lineno + 1, 40, where)

    def test_imports(self):
        for node, where in self.each((ast.Import, ast.ImportFrom)):
            self.assertIsInstance(node, ast.ImportFrom, where)
            self.assertEqual(node.level, 0, where)
            for alias in node.names:
                self.assertIsNone(alias.asname, where)
                if node.module in LIBRARY:
                    self.assertIn(alias.name, LIBRARY[node.module].split(), where)
                else:
                    source = PACKAGE.parent / (node.module.replace(".", "/") + ".py")
                    tree = tree_of(source)
                    made = [one for one in tree.body if not isinstance(one, ast.ImportFrom)]
                    self.assertIn(alias.name, bound_names(ast.Module(made, [])), where)

    def test_no_two_files_import_from_each_other(self):
        needs = {"sparesum." + path.stem: [node.module for node in tree_of(path).body if isinstance(node, ast.ImportFrom)
                                           and node.module not in LIBRARY] for path in files()}
        while needs:
            free = [name for name in needs if not any(other in needs for other in needs[name])]
            self.assertTrue(free, needs)
            needs = {name: needs[name] for name in needs if name not in free}

    def test_module_level(self):
        for path in files():
            tree = tree_of(path)
            names = bound_names(tree)
            self.assertEqual(len(names), len(set(names)), path.name)
            for node in tree.body:
                if isinstance(node, ast.Expr):
                    self.assertIsInstance(node.value, ast.Constant, path.name)
                else:
                    self.assertIsInstance(node, (ast.ImportFrom, ast.FunctionDef, ast.ClassDef, ast.Assign), path.name)

    def test_no_barred_syntax(self):
        barred = (ast.AsyncFunctionDef, ast.Await, ast.Global, ast.Div, ast.AnnAssign, ast.TryStar)
        for node, where in self.each(barred):
            self.fail(f"{where} {node}")
        for node, where in self.each(ast.FunctionDef):
            self.assertTrue(all(isinstance(one, ast.Name) and one.id in ("property", "staticmethod", "classmethod")
                                for one in node.decorator_list), where)
        for node, where in self.each(ast.BinOp):
            if isinstance(node.op, ast.Pow):
                self.assertIsInstance(node.right, ast.Constant, where)
        for node, where in self.each(ast.Compare):
            for sign, right in zip(node.ops, node.comparators):
                if isinstance(sign, (ast.Is, ast.IsNot)):
                    self.assertTrue(isinstance(right, ast.Constant) and right.value in (None, True, False), where)

    def test_names(self):
        own = {name for path in files() for name in bound_names(tree_of(path))}
        for path in files():
            tree = tree_of(path)
            taken = {name for node in tree.body if isinstance(node, (ast.ImportFrom, ast.ClassDef))
                     for name in bound_names(ast.Module([node], []))}
            for node in ast.walk(tree):
                name = node.id if isinstance(node, ast.Name) else node.arg if isinstance(node, ast.arg) else None
                where = f"{path.name} {name}"
                if name is None:
                    continue
                self.assertRegex(name, r"^(_?[A-Za-z][A-Za-z0-9_]*|_)$", where)
                self.assertNotIn(name, BARRED, where)
                if isinstance(node, ast.arg) or isinstance(node.ctx, ast.Store):
                    self.assertNotIn(name, dir(builtins), where)
                    self.assertNotIn(name, taken, where)
                elif name in dir(builtins) and name not in own:
                    self.assertIn(name, BUILTINS, where)

    def test_methods(self):
        own = {node.name for node, _ in self.each(ast.FunctionDef)}
        for node, where in self.each(ast.FunctionDef):
            if node.name.startswith("__"):
                self.assertIn(node.name, DOUBLE, where)
        for node, where in self.each(ast.Call):
            if isinstance(node.func, ast.Attribute):
                self.assertIn(node.func.attr, [*METHODS, *own, "__init__"], where)

    def test_no_generator_expressions_beside_an_own_comparison(self):
        for node, where in self.each(ast.GeneratorExp):
            self.fail(where)

    def test_sets_stand_where_they_may(self):
        for path in files():
            allowed = []
            for node in ast.walk(tree_of(path)):
                if isinstance(node, ast.Call) and isinstance(node.func, ast.Name) and node.func.id in ("len", "sorted"):
                    allowed.extend(ast.unparse(one) for one in node.args)
                if isinstance(node, ast.Compare):
                    allowed.extend(ast.unparse(one) for one in node.comparators)
                if isinstance(node, ast.Assign) and isinstance(node.targets[0], ast.Name):
                    allowed.append(ast.unparse(node.value))
                if isinstance(node, (ast.Set, ast.SetComp)):
                    self.assertIn(ast.unparse(node), allowed, path.name)

    def test_strings_and_numbers(self):
        for path in files():
            tree = tree_of(path)
            told = docstrings(tree)
            for node in ast.walk(tree):
                if not isinstance(node, ast.Constant) or id(node) in told:
                    continue
                self.assertNotIsInstance(node.value, (float, complex, bytes), path.name)
                if isinstance(node.value, str):
                    self.assertNotRegex(node.value, r"[%]|__|\._$", path.name)
                    self.assertFalse(set(re.findall(r"\w+", node.value)) & {"typing", "enum", "Enum", "ABC"}, path.name)


if __name__ == "__main__":
    unittest.main()

"""The form of the package's files: the rules of the language that a short test can see.

Where the package does not need a thing that the language allows under conditions, the test allows it not at all.
"""

import ast
import builtins
import pathlib
import re
import unittest
import warnings

PACKAGE = pathlib.Path(__file__).resolve().parent.parent / "webreckon"
LIBRARY = {"heapq": {"heappush", "heappop"}, "math": {"gcd", "lcm", "isqrt", "comb", "perm", "factorial"}}
BUILTINS = set("""len range enumerate zip min max sum abs sorted reversed int str bool bytes list tuple dict set
    isinstance ord repr any all divmod super classmethod ValueError LookupError ArithmeticError TypeError""".split())
METHODS = set("""append clear copy count endswith extend find get index insert isalnum isalpha isdigit islower isspace
    isupper items join keys ljust lower lstrip partition pop remove replace reverse rfind rjust rpartition rsplit
    rstrip setdefault split splitlines startswith strip update upper values zfill bit_length""".split())
BARRED_NAMES = set("""register mro elements open input law version_info with_traceback add_note attrgetter breakpoint
    builtins compile copyright credits delattr dir eval exec exit gc getattr globals hasattr help id importlib license
    locals methodcaller os quit setattr type vars sys""".split())
BARRED_WORDS = set("""type typing typing_extensions enum Enum IntEnum StrEnum Flag IntFlag Generic Protocol ABC ABCMeta
    namedtuple NamedTuple TypedDict TYPE_CHECKING abstractmethod""".split())
BARRED_NODES = (
    ast.Global, ast.AsyncFor, ast.AsyncFunctionDef, ast.AsyncWith, ast.Await, ast.Import, ast.Lambda, ast.Yield,
    ast.YieldFrom, ast.Set, ast.SetComp, ast.GeneratorExp, ast.NamedExpr, ast.Div, ast.AnnAssign, ast.Match, ast.Delete,
)
TAKE_LISTS = {"any", "all", "min", "max", "sum", "sorted", "tuple", "list", "dict"}
SPECIAL = {
    "__init__": ["self", ...], "__eq__": ["self", "other"], "__str__": ["self"], "__len__": ["self"],
    "__enter__": ["self"], "__exit__": ["self", "kind", "value", "trace"], "__iter__": ["self"],
    "__contains__": ["self", "x"], "__getitem__": ["self", "at"], "__setitem__": ["self", "at", "worth"],
}


def files():
    return sorted(PACKAGE.rglob("*.py"))


def functions(tree):
    return [node for node in ast.walk(tree) if isinstance(node, ast.FunctionDef)]


def bound_names(tree):
    """Parameters and what is assigned to inside the tree."""
    names = {node.arg for node in ast.walk(tree) if isinstance(node, ast.arg)}
    return names | {node.id for node in ast.walk(tree) if isinstance(node, ast.Name) and isinstance(node.ctx, ast.Store)}


def module_names(tree):
    names = []
    for node in tree.body:
        if isinstance(node, ast.ImportFrom):
            names += [alias.name for alias in node.names]
        elif isinstance(node, (ast.FunctionDef, ast.ClassDef)):
            names.append(node.name)
        elif isinstance(node, ast.Assign):
            names += [target.id for target in node.targets]
    return names


class Form(unittest.TestCase):
    def setUp(self):
        self.texts = {path: path.read_bytes() for path in files()}
        self.trees = {path: ast.parse(text) for path, text in self.texts.items()}

    def each(self, kind):
        for path, tree in self.trees.items():
            for node in ast.walk(tree):
                if isinstance(node, kind):
                    yield path, node, f"{path.name}:{getattr(node, 'lineno', 0)}"

    def test_files(self):
        self.assertTrue((PACKAGE / "__init__.py").exists())
        for path in PACKAGE.rglob("*"):
            if "__pycache__" not in path.parts:
                self.assertRegex(path.name, r"^[a-z_][a-z0-9_]*\.py$")

    def test_characters_and_sizes(self):
        for path, text in self.texts.items():
            self.assertTrue(all(32 <= byte <= 126 or byte == 10 for byte in text), path)
            lines = text.decode("ascii").split("\n")
            self.assertLessEqual(len(lines), 399, path)
            self.assertLessEqual(max(map(len, lines)), 120, path)
        for path, tree in self.trees.items():
            for function in functions(tree):
                self.assertLessEqual(function.end_lineno - function.lineno + 1, 40, (path, function.name))

    def test_python_gives_no_warning(self):
        with warnings.catch_warnings():
            warnings.simplefilter("error")
            for path, text in self.texts.items():
                compile(text, str(path), "exec")

    def test_imports(self):
        leads = {}
        for path, node, where in self.each(ast.ImportFrom):
            self.assertEqual(node.level, 0, where)
            names = {alias.name for alias in node.names}
            self.assertTrue(all(alias.asname is None for alias in node.names), where)
            if node.module in LIBRARY:
                self.assertLessEqual(names, LIBRARY[node.module], where)
                continue
            package, name = node.module.split(".")
            self.assertEqual(package, "webreckon", where)
            defined = {part.name for part in self.trees[PACKAGE / f"{name}.py"].body
                       if isinstance(part, (ast.FunctionDef, ast.ClassDef))}
            assigned = {part.targets[0].id for part in self.trees[PACKAGE / f"{name}.py"].body
                        if isinstance(part, ast.Assign)}
            self.assertLessEqual(names, defined | assigned, where)
            leads.setdefault(path.stem, set()).add(name)
        done = set()
        while len(done) < len(self.trees):
            free = {path.stem for path in self.trees} - done
            free = {name for name in free if leads.get(name, set()) <= done}
            self.assertTrue(free, "a ring of imports")
            done |= free

    def test_imported_names_are_used(self):
        for path, tree in self.trees.items():
            read = {node.id for node in ast.walk(tree) if isinstance(node, ast.Name) and isinstance(node.ctx, ast.Load)}
            for node in tree.body:
                if isinstance(node, ast.ImportFrom):
                    self.assertLessEqual({alias.name for alias in node.names}, read, path)

    def test_module_level(self):
        for path, tree in self.trees.items():
            for at, node in enumerate(tree.body):
                is_docstring = at == 0 and isinstance(node, ast.Expr)
                allowed = (ast.ImportFrom, ast.FunctionDef, ast.ClassDef, ast.Assign)
                self.assertTrue(is_docstring or isinstance(node, allowed), (path, at))
            names = module_names(tree)
            self.assertEqual(len(names), len(set(names)), path)

    def test_statements_and_expressions(self):
        for _, node, where in self.each(BARRED_NODES):
            self.fail(f"{where} {node.__class__.__name__}")
        for _, node, where in self.each(ast.Constant):
            self.assertNotIsInstance(node.value, (float, complex, bytes), where)
        for _, node, where in self.each(ast.BinOp):
            if isinstance(node.op, ast.Pow):
                self.assertIsInstance(node.right, ast.Constant, where)
        for _, node, where in self.each(ast.Compare):
            for sign, side in zip(node.ops, node.comparators):
                if isinstance(sign, (ast.Is, ast.IsNot)):
                    self.assertIsInstance(side, ast.Constant, where)
        for _, node, where in self.each(ast.FunctionDef):
            told = [part.id for part in node.decorator_list]
            self.assertIn(told, ([], ["classmethod"]), where)

    def test_builtins_and_names(self):
        # An interactive example, run ahead of this test, leaves its last value in the builtins under "_".
        every = set(dir(builtins)) - {"_"}
        for path, tree in self.trees.items():
            own = bound_names(tree) | set(module_names(tree))
            self.assertFalse(own & every, (path, own & every))
            self.assertFalse(own & BARRED_NAMES, path)
            outer = {alias.name for node in tree.body if isinstance(node, ast.ImportFrom) for alias in node.names}
            outer |= {node.name for node in tree.body if isinstance(node, (ast.ClassDef, ast.FunctionDef))}
            for function in functions(tree):
                self.assertFalse(bound_names(function) & outer, (path, function.name))
            read = {node.id for node in ast.walk(tree) if isinstance(node, ast.Name)}
            self.assertLessEqual(read & every, BUILTINS, path)
            self.assertTrue(all(name == "_" or re.match(r"_?[A-Za-z]", name) for name in own), path)

    def test_words(self):
        for _, node, where in self.each((ast.Name, ast.Attribute, ast.Constant, ast.FunctionDef, ast.ClassDef)):
            text = getattr(node, "id", None) or getattr(node, "attr", None) or getattr(node, "name", None)
            text = str(text if text is not None else getattr(node, "value", ""))
            self.assertNotIn("%", text, where)
            if not isinstance(node, ast.Constant):
                self.assertFalse(set(re.findall(r"\w+", text)) & BARRED_WORDS, where)

    def test_methods(self):
        own = {function.name for tree in self.trees.values() for part in tree.body if isinstance(part, ast.ClassDef)
               for function in part.body if isinstance(function, ast.FunctionDef)}
        self.assertLessEqual({name for name in own if name.startswith("__")}, set(SPECIAL))
        for _, node, where in self.each(ast.FunctionDef):
            if SPECIAL.get(node.name, [...])[-1] is not ...:
                self.assertEqual([part.arg for part in node.args.args], SPECIAL[node.name], where)
        for _, node, where in self.each(ast.Call):
            if isinstance(node.func, ast.Attribute):
                self.assertIn(node.func.attr, METHODS | own, where)
            elif isinstance(node.func, ast.Name) and node.func.id in TAKE_LISTS:
                named = {part.arg for part in node.keywords}
                self.assertLessEqual(named, {"default"} if node.func.id in ("min", "max") else set(), where)

    def test_caught_errors_are_own_ones(self):
        own = {part.name for part in self.trees[PACKAGE / "errors.py"].body if isinstance(part, ast.ClassDef)}
        for _, node, where in self.each(ast.ExceptHandler):
            told = node.type.elts if isinstance(node.type, ast.Tuple) else [node.type]
            self.assertLessEqual({name.id for name in told}, own, where)
            self.assertIsNone(node.name, where)

    def test_what_ends_a_with_or_a_try_only_assigns(self):
        rows = [(row, where) for _, node, where in self.each(ast.Try) for row in node.finalbody]
        rows += [(row, where) for _, node, where in self.each(ast.FunctionDef) if node.name == "__exit__"
                 for row in node.body]
        self.assertGreater(len(rows), 5)
        for row, where in rows:
            self.assertIsInstance(row, ast.Assign, where)
            self.assertIsInstance(row.value, (ast.Name, ast.Attribute, ast.Constant), where)
            self.assertTrue(all(isinstance(target, ast.Attribute) for target in row.targets), where)

    def test_a_class_with_items_is_not_iterated_over(self):
        for _, node, where in self.each(ast.ClassDef):
            told = {part.name: part for part in node.body if isinstance(part, ast.FunctionDef)}
            self.assertEqual("__getitem__" in told, "__iter__" in told, where)
            if "__iter__" in told:
                self.assertIsInstance(told["__iter__"].body[-1], ast.Raise, where)
        for path, text in self.texts.items():
            self.assertNotRegex(text.decode("ascii"), r"\(type\)|Meta|metaclass=", path)

    def test_ranges_are_iterated_at_once(self):
        for path, tree in self.trees.items():
            inside = set()
            for node in ast.walk(tree):
                if isinstance(node, (ast.For, ast.comprehension)):
                    inside.add(node.iter)
                if isinstance(node, ast.Call) and isinstance(node.func, ast.Name):
                    if node.func.id in TAKE_LISTS | {"enumerate", "zip"} and node.args:
                        inside.add(node.args[0])
            for node in ast.walk(tree):
                if isinstance(node, ast.Call):
                    name = getattr(node.func, "id", getattr(node.func, "attr", ""))
                    if name in ("range", "zip", "enumerate", "reversed", "items", "keys", "values"):
                        self.assertIn(node, inside, f"{path.name}:{node.lineno}")


if __name__ == "__main__":
    unittest.main()

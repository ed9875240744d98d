"""The files of the package keep to the subset of Python that the project uses."""

import ast
import builtins
import pathlib
import re
import unittest

PACKAGE = pathlib.Path(__file__).resolve().parent.parent / "sayable"
FILES = sorted(PACKAGE.rglob("*.py"))

METHODS = set("""append clear copy count endswith extend find get index insert isalnum isalpha isdigit islower isspace
isupper items join keys ljust lower lstrip partition pop remove replace reverse rfind rjust rpartition rsplit rstrip
setdefault split splitlines startswith strip update upper values zfill bit_length title capitalize swapcase casefold
center expandtabs removeprefix removesuffix rindex isascii isdecimal isnumeric istitle isidentifier isprintable""".split())
CALLABLE = set("""len range enumerate zip min max sum abs sorted reversed int str bool list tuple dict set isinstance ord
repr any all divmod map iter next""".split())
ERRORS = set("""Exception ValueError TypeError KeyError IndexError LookupError ZeroDivisionError ArithmeticError
OverflowError RuntimeError NotImplementedError AttributeError StopIteration NotImplemented""".split())
DUNDERS = set("""__init__ __eq__ __repr__ __str__ __len__ __enter__ __exit__ __call__ __iter__ __and__ __or__ __invert__
__bool__ __contains__""".split())
NEVER = set("register mro elements open input law version_info with_traceback add_note".split())
NOT_NAMES = set("""attrgetter breakpoint builtins compile copyright credits delattr dir eval exec exit gc getattr globals
hasattr help id importlib license locals methodcaller os quit setattr super type vars sys""".split())
WORDS_OUT = """typing typing_extensions enum Enum IntEnum StrEnum Flag IntFlag Generic Protocol ABC ABCMeta namedtuple
NamedTuple TypedDict TYPE_CHECKING abstractmethod type""".split()
DECORATORS = {"staticmethod", "classmethod", "property"}
STATEMENTS = (ast.Assign, ast.AugAssign, ast.If, ast.While, ast.For, ast.Return, ast.Break, ast.Continue, ast.Pass,
              ast.Raise, ast.Delete, ast.Try, ast.Expr, ast.FunctionDef, ast.ClassDef, ast.ImportFrom)
NODES_OUT = (ast.Global, ast.AsyncFunctionDef, ast.AnnAssign, ast.Import, ast.Div, ast.Await, ast.MatMult, ast.Assert,
             ast.Match, ast.With, ast.Nonlocal, ast.NamedExpr, ast.GeneratorExp)
CONTAINERS = (ast.List, ast.Dict, ast.Set)
CHANGES = set("append clear extend insert pop remove reverse setdefault update add discard".split())


def parents_of(tree):
    return {child: node for node in ast.walk(tree) for child in ast.iter_child_nodes(node)}


def bound_names(node):
    """The names that a function binds: parameters and what is stored."""
    found = set()
    for inner in ast.walk(node):
        if isinstance(inner, ast.arg):
            found.add(inner.arg)
        if isinstance(inner, ast.Name) and isinstance(inner.ctx, ast.Store):
            found.add(inner.id)
    return found


def root_of(node):
    """The name with which an expression of attributes, items and calls begins."""
    while isinstance(node, (ast.Attribute, ast.Subscript, ast.Call)):
        node = node.func if isinstance(node, ast.Call) else node.value
    return node.id if isinstance(node, ast.Name) else None


def changed_in(statement):
    """What is changed by its methods, items or attributes."""
    for node in ast.walk(statement):
        if isinstance(node, ast.Call) and isinstance(node.func, ast.Attribute) and node.func.attr in CHANGES:
            yield node.func.value
        if isinstance(node, (ast.Subscript, ast.Attribute)) and isinstance(node.ctx, (ast.Store, ast.Del)):
            yield node.value


class Package(unittest.TestCase):
    @classmethod
    def setUpClass(cls):
        cls.texts = {path: path.read_text(encoding="utf-8") for path in FILES}
        cls.trees = {path: ast.parse(text) for path, text in cls.texts.items()}

    def each_node(self, *kinds):
        for path, tree in self.trees.items():
            for node in ast.walk(tree):
                if isinstance(node, kinds):
                    yield f"{path.name}:{getattr(node, 'lineno', 0)}", node

    def test_files(self):
        self.assertTrue((PACKAGE / "__init__.py").is_file())
        self.assertLessEqual(len(FILES), 100)
        for path in PACKAGE.iterdir():
            if path.name != "__pycache__":
                self.assertRegex(path.name, r"^[a-z_0-9]+\.py$")
        for path, text in self.texts.items():
            lines = text.split("\n")
            self.assertLessEqual(len(lines) - 1, 399, path.name)
            for number, line in enumerate(lines, 1):
                where = f"{path.name}:{number}"
                self.assertLessEqual(len(line), 120, where)
                self.assertRegex(line, r"^[ -~]*$", where)
                self.assertEqual(line, line.rstrip(), where)

    def test_functions_are_short(self):
        for where, node in self.each_node(ast.FunctionDef):
            self.assertLessEqual(node.end_lineno - node.lineno + 1, 40, where)

    def test_statements_and_expressions(self):
        for where, node in self.each_node(ast.stmt):
            self.assertIsInstance(node, STATEMENTS, where)
        for where, node in self.each_node(*NODES_OUT):
            self.fail(f"{where}: {type(node).__name__}")
        for where, node in self.each_node(ast.arg):
            self.assertIsNone(node.annotation, where)
        for where, node in self.each_node(ast.Constant):
            self.assertNotIsInstance(node.value, float, where)
            if isinstance(node.value, str):
                self.assertNotIn("%", node.value, where)
        for where, node in self.each_node(ast.Compare):
            for sign, side in zip(node.ops, node.comparators):
                if isinstance(sign, (ast.Is, ast.IsNot)):
                    self.assertIsInstance(side, ast.Constant, where)

    def test_module_level(self):
        for path, tree in self.trees.items():
            names = []
            for node in tree.body:
                if isinstance(node, (ast.FunctionDef, ast.ClassDef)):
                    names.append(node.name)
                elif isinstance(node, ast.ImportFrom):
                    names.extend(alias.asname or alias.name for alias in node.names)
                elif isinstance(node, ast.Assign):
                    self.assertEqual(len(node.targets), 1)
                    names.append(node.targets[0].id)
                    inner = [x for x in ast.walk(node.value) if isinstance(x, CONTAINERS) and x is not node.value]
                    self.assertEqual(inner, [], f"{path.name}:{node.lineno}")
                    self.assertFalse([x for x in ast.walk(node.value) if isinstance(x, (ast.Call, ast.ListComp))])
                else:
                    self.assertIsInstance(node.value, ast.Constant, f"{path.name}:{node.lineno}")
            self.assertEqual(len(names), len(set(names)), path.name)

    def test_imports(self):
        above = {}
        defined = {"math": {"comb"}, "heapq": {"heappush", "heappop"}}
        for path, tree in self.trees.items():
            module = f"sayable.{path.stem}"
            defined[module] = {x.name for x in tree.body if isinstance(x, (ast.FunctionDef, ast.ClassDef))}
            defined[module] |= {x.targets[0].id for x in tree.body if isinstance(x, ast.Assign)}
        for path, tree in self.trees.items():
            above[f"sayable.{path.stem}"] = set()
            read = {x.id for x in ast.walk(tree) if isinstance(x, ast.Name)}
            for node in ast.walk(tree):
                if isinstance(node, ast.ImportFrom):
                    self.assertEqual(node.level, 0)
                    self.assertIn(node, tree.body)
                    above[f"sayable.{path.stem}"].add(node.module)
                    for alias in node.names:
                        where = f"{path.name}: {alias.name}"
                        self.assertIsNone(alias.asname, where)
                        self.assertIn(alias.name, defined[node.module], where)
                        self.assertIn(alias.name, read, where + " is not used")
        while above:
            free = [module for module in above if not above[module] & set(above)]
            self.assertTrue(free, f"imports in a ring: {sorted(above)}")
            for module in free:
                del above[module]

    def test_names(self):
        known = set(dir(builtins))
        for path, tree in self.trees.items():
            top = {x.name for x in tree.body if isinstance(x, ast.ClassDef)}
            top |= {alias.name for x in tree.body if isinstance(x, ast.ImportFrom) for alias in x.names}
            for node in tree.body:
                functions = [x for x in ast.walk(node) if isinstance(x, ast.FunctionDef)]
                for function in functions:
                    where = f"{path.name}:{function.lineno}"
                    self.assertEqual(bound_names(function) & top, set(), where)
                    self.assertEqual(bound_names(function) & known, set(), where)
                    self.assertEqual(bound_names(function) & (NEVER | NOT_NAMES), set(), where)
                    self.assertNotIn(function.name, NEVER | NOT_NAMES, where)
                    if isinstance(node, ast.FunctionDef):
                        self.assertNotIn(function.name, known, where)
        for where, node in self.each_node(ast.Name):
            self.assertFalse(node.id.startswith("__"), where)
            self.assertNotIn(node.id, NEVER | NOT_NAMES, where)
            if node.id in known:
                self.assertIn(node.id, CALLABLE | ERRORS | DECORATORS, where)
        for path, text in self.texts.items():
            bare = re.sub(r'""".*?"""|#[^\n]*', "", text, flags=re.S)
            for word in WORDS_OUT:
                self.assertIsNone(re.search(rf"\b{word}\b", bare), f"{path.name}: {word}")

    def test_classes(self):
        stored = set()
        methods = {}
        valued = set()
        for where, node in self.each_node(ast.ClassDef):
            self.assertEqual(node.decorator_list, [], where)
            self.assertRegex(node.name, "^[A-Z]", where)
            own = [x for x in node.body if isinstance(x, ast.FunctionDef)]
            valued |= {x.targets[0].id for x in node.body if isinstance(x, ast.Assign)}
            self.assertEqual(len(own), len({x.name for x in own}), where)
            for method in own:
                methods.setdefault(method.name, []).append(where)
                if method.name.startswith("__"):
                    self.assertIn(method.name, DUNDERS, where)
                for mark in method.decorator_list:
                    self.assertIn(mark.id, ("staticmethod", "classmethod", "property"), where)
            attributes = {x.attr for x in ast.walk(node) if isinstance(x, ast.Attribute)
                          and isinstance(x.ctx, ast.Store)}
            self.assertEqual(attributes & {x.name for x in own}, set(), where)
            stored |= attributes
        self.assertEqual(valued & (stored | set(methods)), set())
        self.assertEqual(stored & {"items", "keys", "values", "pop", "update", "append", "clear", "extend", "insert",
                                   "remove", "reverse", "setdefault", "sort", "args", "encode", "decode", "format"}, set())
        for where, node in self.each_node(ast.Attribute):
            self.assertNotIn(node.attr, NEVER, where)
            known = node.attr in stored or node.attr in methods or node.attr in METHODS or node.attr in valued
            self.assertTrue(known or node.attr in ("add", "discard", "__init__", "__class__", "__name__"),
                            f"{where}: {node.attr}")

    def test_sets(self):
        for path, tree in self.trees.items():
            parents = parents_of(tree)
            for node in ast.walk(tree):
                is_set = isinstance(node, (ast.SetComp, ast.Set)) or (
                    isinstance(node, ast.Call) and isinstance(node.func, ast.Name) and node.func.id == "set")
                if not is_set:
                    continue
                where = f"{path.name}:{node.lineno}"
                over = parents[node]
                while isinstance(over, ast.BinOp) and isinstance(over.op, (ast.Sub, ast.BitAnd, ast.BitOr, ast.BitXor)):
                    over = parents[over]
                if isinstance(over, ast.Call):
                    self.assertIn(over.func.id, ("sorted", "len"), where)
                elif isinstance(over, ast.Assign):
                    self.assertIsInstance(over.targets[0], ast.Name, where)
                    self.check_kept_set(parents, over, where)
                else:
                    self.assertIsInstance(over, ast.Compare, where)

    def check_kept_set(self, parents, assigned, where):
        """A set that is kept: assigned once, then only asked, measured, added to."""
        function = assigned
        while not isinstance(function, ast.FunctionDef):
            function = parents[function]
        name = assigned.targets[0].id
        stores = 0
        for node in ast.walk(function):
            if isinstance(node, ast.Name) and node.id == name:
                over = parents[node]
                if isinstance(node.ctx, ast.Store):
                    stores += 1
                elif isinstance(over, ast.Attribute):
                    self.assertIn(over.attr, ("add", "discard"), where)
                elif isinstance(over, ast.Call):
                    self.assertIn(over.func.id, ("len", "sorted"), where)
                else:
                    self.assertIsInstance(over, (ast.Compare, ast.If, ast.While, ast.UnaryOp, ast.BoolOp), where)
        self.assertEqual(stores, 1, where)

    def test_loops_leave_what_they_go_over(self):
        """Neither by its name nor by another field of the object that has it."""
        for where, node in self.each_node(ast.For):
            gone_over = [x for x in ast.walk(node.iter) if isinstance(x, (ast.Name, ast.Attribute))]
            roots = {root_of(x) for x in gone_over} - {None}
            for inner in node.body:
                for changed in changed_in(inner):
                    self.assertNotIn(root_of(changed), roots, f"{where}: {ast.unparse(changed)}")

    def test_calls(self):
        for path, tree in self.trees.items():
            parents = parents_of(tree)
            for node in ast.walk(tree):
                if not isinstance(node, ast.Call):
                    continue
                where = f"{path.name}:{node.lineno}"
                name = node.func.id if isinstance(node.func, ast.Name) else ""
                if name in ("zip", "enumerate", "reversed"):
                    over = parents[node]
                    held = isinstance(over, (ast.For, ast.comprehension)) or (
                        isinstance(over, ast.Call) and isinstance(over.func, ast.Name) and over.func.id in CALLABLE)
                    self.assertTrue(held, where)
                if name == "isinstance":
                    self.assertIsInstance(node.args[1], (ast.Name, ast.Tuple), where)
                if isinstance(node.func, ast.Attribute) and node.func.attr == "sort":
                    self.fail(where)
        for where, node in self.each_node(ast.ExceptHandler):
            self.assertIsInstance(node.type, ast.Name, where)


if __name__ == "__main__":
    unittest.main()

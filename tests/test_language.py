"""What can be seen of the rules for the package's code: one test for each group of rules."""

import ast
import builtins
import re
import unittest
from pathlib import Path

PACKAGE = Path(__file__).resolve().parent.parent / "sevenruns"
FILES = {path.stem: path.read_text() for path in sorted(PACKAGE.glob("*.py"))}
TREES = {name: ast.parse(text) for name, text in FILES.items()}
LIBRARY = {"math": ("gcd", "lcm", "isqrt", "comb", "perm", "factorial")}
BUILTINS = ("len", "range", "enumerate", "zip", "min", "max", "sum", "abs", "sorted", "reversed", "int", "str", "bool", "list",
            "tuple", "dict", "set", "isinstance", "ord", "repr", "any", "all", "divmod", "ValueError", "super")
METHODS = """append clear copy count endswith extend find get index insert isalnum isalpha isdigit islower isspace isupper
items join keys ljust lower lstrip partition pop remove replace reverse rfind rjust rpartition rsplit rstrip setdefault split
splitlines startswith strip update upper values zfill bit_length removeprefix removesuffix add discard""".split()
ATTRIBUTES_BARRED = """items keys values pop update append clear extend insert remove reverse setdefault sort args encode
decode hex fromhex format format_map mro""".split()
NEVER = "register mro elements open input law version_info with_traceback add_note".split()
NOT_NAMES = """attrgetter breakpoint builtins compile copyright credits delattr dir eval exec exit gc getattr globals hasattr
help id importlib license locals methodcaller os quit setattr super type vars sys _""".split()
WORDS = """type typing typing_extensions enum Enum IntEnum StrEnum Flag IntFlag Generic Protocol ABC ABCMeta namedtuple
NamedTuple TypedDict TYPE_CHECKING abstractmethod""".split()
SPECIAL = ("__init__", "__eq__", "__len__")
NODES = """Module FunctionDef arguments arg ClassDef Return Assign AugAssign For While If Raise ImportFrom alias Expr Pass Break
Continue BoolOp And Or BinOp Add Sub Mult FloorDiv Mod Pow LShift RShift BitOr BitXor BitAnd UnaryOp Not USub Invert IfExp Dict
Set ListComp SetComp DictComp GeneratorExp Yield Compare Eq NotEq Lt LtE Gt GtE Is IsNot In NotIn Call FormattedValue JoinedStr
Constant Attribute Subscript Starred Name List Tuple Slice Load Store comprehension keyword Lambda Delete Del""".split()
# The two that the interface asks for.
DEFAULTS = {"do_all": [False], "undo": [1]}
LAZY = ("zip", "enumerate", "reversed", "range", "items", "keys", "values")
CONSUMERS = ("list", "tuple", "dict", "sorted", "sum", "any", "all", "enumerate", "zip", "min", "max", "join")


def nodes(kind):
    """The pairs of a file's name and each node of this kind in it."""
    return [(name, node) for name, tree in TREES.items() for node in ast.walk(tree) if isinstance(node, kind)]


def bound_names(tree):
    """All names that are bound in a file as functions, classes, parameters or variables."""
    found = []
    for node in ast.walk(tree):
        if isinstance(node, (ast.FunctionDef, ast.ClassDef)):
            found.append(node.name)
        elif isinstance(node, ast.arg):
            found.append(node.arg)
        elif isinstance(node, ast.Name) and isinstance(node.ctx, ast.Store):
            found.append(node.id)
    return found


def imported(tree):
    return [alias.name for node in ast.walk(tree) if isinstance(node, ast.ImportFrom) for alias in node.names]


def called_name(call):
    """The bare name of what is called, or that of the method."""
    if isinstance(call.func, ast.Name):
        return call.func.id
    return call.func.attr if isinstance(call.func, ast.Attribute) else ""


class Language(unittest.TestCase):
    def test_files(self):
        own = [path.name for path in PACKAGE.iterdir() if path.name != "__pycache__"]
        self.assertTrue(all(re.fullmatch("[a-z_]+[.]py", name) for name in own), own)
        self.assertIn("__init__.py", own)
        self.assertLessEqual(len(own), 100)
        for name, text in FILES.items():
            self.assertLessEqual(len(text.splitlines()), 399, name)
            self.assertTrue(all(len(row) <= 120 for row in text.splitlines()), name)
            self.assertTrue(all(sign == "\n" or " " <= sign <= "~" for sign in text), name)

    def test_sizes_of_functions(self):
        for name, node in nodes(ast.FunctionDef):
            self.assertLessEqual(node.end_lineno - node.lineno + 1, 40, (name, node.name))
            self.assertFalse(node.decorator_list, (name, node.name))

    def test_imports(self):
        for name, node in nodes(ast.ImportFrom):
            self.assertEqual((node.level, node.col_offset), (0, 0), name)
            self.assertTrue(all(alias.asname is None for alias in node.names), name)
            names = [alias.name for alias in node.names]
            if node.module in LIBRARY:
                self.assertTrue(all(entry in LIBRARY[node.module] for entry in names), name)
            else:
                package, module = node.module.split(".")
                self.assertEqual(package, "sevenruns")
                top = [entry for part in TREES[module].body for entry in self.names_of(part)]
                self.assertTrue(all(entry in top for entry in names), (name, names))

    def names_of(self, part):
        if isinstance(part, (ast.FunctionDef, ast.ClassDef)):
            return [part.name]
        return [target.id for target in part.targets] if isinstance(part, ast.Assign) else []

    def test_imports_stand_at_the_top_and_are_used(self):
        for name, tree in TREES.items():
            kinds = [isinstance(part, ast.ImportFrom) for part in tree.body[1:]]
            self.assertEqual(kinds, sorted(kinds, reverse=True), name)
            used = [node.id for node in ast.walk(tree) if isinstance(node, ast.Name)]
            self.assertTrue(all(entry in used for entry in imported(tree)), name)

    def test_no_circles(self):
        reads = {name: [node.module.split(".")[1] for node in ast.walk(tree)
                        if isinstance(node, ast.ImportFrom) and node.module not in LIBRARY] for name, tree in TREES.items()}
        left = dict(reads)
        while left:
            free = [name for name in left if not any(entry in left for entry in left[name])]
            self.assertTrue(free, left)
            left = {name: left[name] for name in left if name not in free}

    def test_module_level(self):
        for name, tree in TREES.items():
            self.assertTrue(isinstance(tree.body[0], ast.Expr) and isinstance(tree.body[0].value.value, str), name)
            for part in tree.body[1:]:
                self.assertIsInstance(part, (ast.ImportFrom, ast.FunctionDef, ast.ClassDef, ast.Assign), name)
                if isinstance(part, ast.Assign):
                    self.assertTrue(len(part.targets) == 1 and isinstance(part.targets[0], ast.Name))
                    inner = [node for node in ast.walk(part.value) if node is not part.value]
                    self.assertFalse([node for node in ast.walk(part.value) if isinstance(node, (ast.Name, ast.Call))], name)
                    self.assertFalse([node for node in inner if isinstance(node, (ast.List, ast.Dict, ast.Set))], name)
            top = [entry for part in tree.body for entry in self.names_of(part)] + imported(tree)
            self.assertEqual(len(top), len(set(top)), name)

    def test_tables_are_only_read(self):
        for name, tree in TREES.items():
            tables = [part.targets[0].id for part in tree.body
                      if isinstance(part, ast.Assign) and isinstance(part.value, (ast.Dict, ast.List))]
            let = [node.value for node in ast.walk(tree) if isinstance(node, ast.Subscript)]
            let += [right for node in ast.walk(tree) if isinstance(node, ast.Compare) for right in node.comparators]
            for node in ast.walk(tree):
                if isinstance(node, ast.Name) and isinstance(node.ctx, ast.Load) and node.id in tables:
                    self.assertIn(node, let, (name, node.lineno))
                if isinstance(node, ast.ImportFrom) and node.module not in LIBRARY:
                    other = TREES[node.module.split(".")[1]]
                    barred = [part.targets[0].id for part in other.body
                              if isinstance(part, ast.Assign) and isinstance(part.value, (ast.Dict, ast.List))]
                    # None is read in another file but for two.
                    self.assertFalse([alias.name for alias in node.names if alias.name in barred and alias.name != "LENGTHS"], name)

    def test_names_in_comprehensions(self):
        kinds = (ast.ListComp, ast.SetComp, ast.DictComp, ast.GeneratorExp)
        for name, function in nodes(ast.FunctionDef):
            outer = [node for node in ast.walk(function) if isinstance(node, kinds)]
            inner = [node for part in outer for node in ast.walk(part) if isinstance(node, kinds) and node is not part]
            bound = [node.arg for node in ast.walk(function.args) if isinstance(node, ast.arg)]
            own = [node for part in outer for node in ast.walk(part) if isinstance(node, ast.Name)]
            bound += [node.id for node in ast.walk(function)
                      if isinstance(node, ast.Name) and isinstance(node.ctx, ast.Store) and node not in own]
            for part in inner:
                targets = [node.id for loop in part.generators for node in ast.walk(loop.target) if isinstance(node, ast.Name)]
                self.assertFalse([entry for entry in targets if entry in bound and entry != "_"], (name, part.lineno))

    def test_statements_and_signs(self):
        for name, tree in TREES.items():
            for node in ast.walk(tree):
                self.assertIn(node.__class__.__name__, NODES, (name, getattr(node, "lineno", 0)))
        for name, node in nodes(ast.BinOp):
            if isinstance(node.op, ast.Pow):
                self.assertIsInstance(node.right, ast.Constant, name)
        for name, node in nodes(ast.Compare):
            for sign, right in zip(node.ops, node.comparators):
                if isinstance(sign, (ast.Is, ast.IsNot)):
                    self.assertTrue(isinstance(right, ast.Constant) and right.value in (None, True, False), name)

    def test_constants(self):
        for name, node in nodes(ast.Constant):
            self.assertIsInstance(node.value, (int, str, type(None)), name)
            if isinstance(node.value, str):
                self.assertNotIn("%", node.value)
                self.assertTrue(all(sign == "\n" or " " <= sign <= "~" for sign in node.value), name)
                self.assertFalse(node.value.endswith("._") or node.value.startswith("__"), name)

    def test_names(self):
        barred = [entry for entry in dir(builtins)]
        for name, tree in TREES.items():
            classes = [node.name for node in ast.walk(tree) if isinstance(node, ast.ClassDef)]
            bound = bound_names(tree)
            for entry in bound:
                if entry not in SPECIAL:
                    self.assertTrue(re.fullmatch("_?[A-Za-z][A-Za-z0-9_]*|_", entry), (name, entry))
                    self.assertNotIn(entry, barred, name)
                    self.assertNotIn(entry, NEVER + NOT_NAMES[:-1], name)
                    self.assertNotIn(entry, imported(tree), name)
            for entry in classes:
                self.assertEqual(bound.count(entry), 1, (name, entry))
            own = bound + imported(tree) + list(BUILTINS)
            for node in ast.walk(tree):
                if isinstance(node, ast.Name) and isinstance(node.ctx, ast.Load):
                    self.assertIn(node.id, own, name)
                    self.assertNotEqual(node.id, "_", name)

    def test_words(self):
        for name, text in FILES.items():
            for node in ast.walk(TREES[name]):
                words = []
                if isinstance(node, ast.Name):
                    words = [node.id]
                elif isinstance(node, ast.Attribute):
                    words = [node.attr]
                elif isinstance(node, ast.keyword):
                    words = [node.arg]
                for word in words:
                    self.assertNotIn(word, WORDS + NEVER, name)
            self.assertFalse(re.search("_wall|_WallAttr|dataclass|overload|contextmanager", text), name)

    def test_methods_and_attributes(self):
        own = [node.name for _, part in nodes(ast.ClassDef) for node in part.body if isinstance(node, ast.FunctionDef)]
        stored = [node.attr for _, node in nodes(ast.Attribute) if isinstance(node.ctx, ast.Store)]
        self.assertFalse([entry for entry in stored if entry in ATTRIBUTES_BARRED])
        for name, node in nodes(ast.Attribute):
            self.assertIn(node.attr, METHODS + own + stored, name)
            if isinstance(node.ctx, ast.Store):
                self.assertIsInstance(node.value, ast.Name, name)

    def test_no_method_is_an_attribute_of_its_class(self):
        for name, part in nodes(ast.ClassDef):
            methods = [node.name for node in part.body if isinstance(node, ast.FunctionDef)]
            stored = [node.attr for node in ast.walk(part) if isinstance(node, ast.Attribute) and isinstance(node.ctx, ast.Store)]
            self.assertFalse([entry for entry in methods if entry in stored], (name, part.name))
            self.assertTrue(all(entry in SPECIAL for entry in methods if entry.startswith("__")), (name, part.name))
            self.assertEqual(len(methods), len(set(methods)))

    def test_super_and_del(self):
        found = [(name, ast.unparse(call)) for name, call in nodes(ast.Call) if "super" in ast.unparse(call.func)]
        self.assertEqual(sorted(found), [("live", "super()"), ("live", "super().__init__(units)")])
        for name, node in nodes(ast.Delete):
            self.assertTrue(all(isinstance(target, ast.Subscript) for target in node.targets), name)

    def test_generator_expressions(self):
        inner = [node for _, call in nodes(ast.Call) for node in call.args
                 if called_name(call) in ("tuple", "list", "dict", "join") and isinstance(node, ast.GeneratorExp)]
        for name, node in nodes(ast.GeneratorExp):
            self.assertIn(node, inner, (name, node.lineno))

    def test_lazy_things_are_iterated_at_once(self):
        generators = [node.name for _, node in nodes(ast.FunctionDef) if any(isinstance(n, ast.Yield) for n in ast.walk(node))]
        self.assertEqual(generators, ["corners_of"])
        let = [node.iter for kind in (ast.For, ast.comprehension) for _, node in nodes(kind)]
        let += [node for _, call in nodes(ast.Call) if called_name(call) in CONSUMERS for node in call.args]
        for name, call in nodes(ast.Call):
            if called_name(call) in LAZY + ("corners_of",):
                self.assertIn(call, let, (name, call.lineno))

    def test_sets(self):
        let = [node for _, call in nodes(ast.Call) if called_name(call) in ("sorted", "len") for node in ast.walk(call)]
        let += [node for _, part in nodes(ast.Compare) for node in part.comparators]
        for name, node in nodes((ast.Set, ast.SetComp)):
            self.assertIn(node, let, (name, node.lineno))
        for name, call in nodes(ast.Call):
            if called_name(call) == "set":
                self.assertIn(call, let, (name, call.lineno))

    def test_raise(self):
        errors = [node.name for node in TREES["errors"].body if isinstance(node, ast.ClassDef)]
        for name, node in nodes(ast.Raise):
            self.assertIsInstance(node.exc, ast.Call, name)
            self.assertIn(called_name(node.exc), errors, name)
            self.assertIsNone(node.cause, name)

    def test_defaults_and_stars(self):
        for name, node in nodes(ast.FunctionDef):
            self.assertEqual([part.value for part in node.args.defaults], DEFAULTS.get(node.name, []), name)
            self.assertFalse(node.args.kwonlyargs or node.args.kwarg or node.args.posonlyargs, name)
            self.assertFalse(node.returns, name)
        for name, call in nodes(ast.Call):
            for part in call.args:
                if isinstance(part, ast.Starred):
                    self.assertIsInstance(part.value, ast.Name, name)
            self.assertTrue(all(part.arg is not None for part in call.keywords), name)

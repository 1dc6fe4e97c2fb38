"""The rules of LANGUAGE.md, as far as a script can see them, for each file of the package."""

import ast
import builtins
import io
import os
import re
import sys
import tokenize
import unittest

PACKAGE = os.path.join(os.path.dirname(os.path.dirname(os.path.abspath(__file__))), "ropesheld")
NAME = "ropesheld"
LIBRARY = {
    "heapq": {"heappush", "heappop", "heapify", "heapreplace", "heappushpop"},
    "math": {"gcd", "lcm", "isqrt", "comb", "perm", "factorial"},
    "itertools": {"product", "combinations", "permutations"},
}
# A shell's or a doctest's last answer is no builtin.
ALL_BUILTINS = set(dir(builtins)) - {"_"}
BUILTINS = set("""
    len range enumerate zip min max sum abs sorted reversed int str bool bytes list tuple dict set frozenset isinstance
    ord repr any all divmod Exception ValueError TypeError KeyError IndexError LookupError ZeroDivisionError
    ArithmeticError OverflowError RuntimeError NotImplementedError AttributeError StopIteration NotImplemented iter next
    map super property staticmethod classmethod
""".split())
METHODS = set("""
    append clear copy count endswith extend find get index insert isalnum isalpha isdigit islower isspace isupper items
    join keys ljust lower lstrip partition pop remove replace reverse rfind rjust rpartition rsplit rstrip setdefault
    split splitlines startswith strip update upper values zfill bit_length title capitalize swapcase casefold center
    expandtabs removeprefix removesuffix rindex isascii isdecimal isnumeric istitle isidentifier isprintable translate
    encode decode hex add discard maketrans
""".split())
MODIFYING = set("append clear extend insert pop remove reverse setdefault update sort".split())
DUNDERS = set("""
    __init__ __eq__ __repr__ __str__ __len__ __enter__ __exit__ __call__ __iter__ __lt__ __le__ __gt__ __ge__ __ne__
    __contains__ __getitem__ __setitem__ __bool__
""".split())
BARRED = set("register mro elements open input law version_info with_traceback add_note".split())
BARRED_NAMES = BARRED | set("""
    attrgetter breakpoint builtins compile copyright credits delattr dir eval exec exit gc getattr globals hasattr help
    id importlib license locals methodcaller os quit setattr super type vars sys
""".split())
BARRED_WORDS = set("""
    type typing typing_extensions enum Enum IntEnum StrEnum Flag IntFlag Generic Protocol ABC ABCMeta namedtuple
    NamedTuple TypedDict TYPE_CHECKING abstractmethod
""".split())
BARRED_STARTS = (
    "_wall", "_pe_", "_dcw_", "_enum_", "_cm_", "_twin_re_", "_lay_", "_law_", "_stub_", "_sre", "_WallAttr")
BARRED_ATTRIBUTES = set("""
    items keys values pop update append clear extend insert remove reverse setdefault sort args encode decode hex
    fromhex format format_map mro as_integer_ratio bit_count conjugate from_bytes is_integer to_bytes
""".split())
FRAME = re.compile(r"^(f|tb|co|gi|cr|ag)_[a-z]+$")
STATEMENTS = (
    ast.Assign, ast.AugAssign, ast.AnnAssign, ast.If, ast.While, ast.For, ast.Return, ast.Break, ast.Continue, ast.Pass,
    ast.Raise, ast.Assert, ast.Delete, ast.Nonlocal, ast.Match, ast.With, ast.Try, ast.Expr, ast.FunctionDef,
    ast.ClassDef, ast.ImportFrom)
NO_EXPRESSIONS = (ast.Await, ast.Div, ast.MatMult, ast.NamedExpr)
LAZY = {"zip", "enumerate", "reversed", "range"}
VIEWS = {"items", "keys", "values"}
TAKING = {"list", "tuple", "dict", "sorted", "sum", "any", "all", "enumerate", "zip", "min", "max", "bytes"}
TAKING_KEYS = {"sorted": {"key", "reverse"}, "min": {"key", "default"}, "max": {"key", "default"}, "sum": {"start"},
               "enumerate": {"start"}, "zip": {"strict"}}


class Lint(ast.NodeVisitor):
    """Collects what breaks a rule in one file: pairs (rule, line)."""

    def __init__(self, text, known=None):
        self.text = text
        self.known = known or {}
        self.found = []
        self.tree = ast.parse(text)
        self.parents = {child: node for node in ast.walk(self.tree) for child in ast.iter_child_nodes(node)}
        self.docstrings = set()
        for node in ast.walk(self.tree):
            if isinstance(node, (ast.Module, ast.ClassDef, ast.FunctionDef)) and ast.get_docstring(node) is not None:
                self.docstrings.add(node.body[0].value)
        self.imported = {alias.asname or alias.name for node in self.tree.body if isinstance(node, ast.ImportFrom)
                         for alias in node.names}
        self.classes = {node.name for node in self.tree.body if isinstance(node, ast.ClassDef)}
        self.own = self.known.get("methods", set()) | {
            node.name for node in ast.walk(self.tree) if isinstance(node, ast.FunctionDef)}

    def check(self):
        self.check_text()
        self.check_module()
        self.visit(self.tree)
        return sorted(set(self.found), key=str)

    def wrong(self, rule, node):
        self.found.append((rule, getattr(node, "lineno", node)))

    def check_text(self):
        lines = self.text.split("\n")
        if len(self.text.splitlines()) > 399:
            self.wrong("L10 file", 400)
        for number, line in enumerate(lines, start=1):
            if len(line) > 120:
                self.wrong("L10 line", number)
            if any(not " " <= sign <= "~" for sign in line):
                self.wrong("L14 characters", number)
            if re.search(r"_wall|_WallAttr", line):
                self.wrong("L12 words", number)
            if re.search(r"dataclass|overload|contextmanager", line):
                self.wrong("L17 words", number)
        for token in tokenize.generate_tokens(io.StringIO(self.text).readline):
            if token.type == tokenize.NAME and token.string in BARRED_WORDS:
                self.wrong("L17 words", token.start[0])
            if token.type == tokenize.STRING and re.search(r"\\[^nt\\'\"\n]", token.string):
                self.wrong("L27 escapes", token.start[0])

    def check_module(self):
        bound, imports = [], True
        for node in self.tree.body:
            if isinstance(node, ast.ImportFrom):
                if not imports:
                    self.wrong("L2 top", node)
                bound += [alias.asname or alias.name for alias in node.names]
            elif isinstance(node, (ast.FunctionDef, ast.ClassDef)):
                imports = False
                bound.append(node.name)
            elif isinstance(node, ast.Assign) and len(node.targets) == 1 and isinstance(node.targets[0], ast.Name):
                imports = False
                bound.append(node.targets[0].id)
                if not self.is_plain(node.value, 0):
                    self.wrong("L3 value", node)
            elif not (isinstance(node, ast.Expr) and node.value in self.docstrings):
                self.wrong("L3 statement", node)
        for name in bound:
            if bound.count(name) > 1:
                self.wrong("L15 once", 1)

    def is_plain(self, node, depth):
        if isinstance(node, ast.Constant):
            return isinstance(node.value, (int, str, bytes, type(None)))
        if isinstance(node, ast.UnaryOp) and isinstance(node.op, ast.USub):
            return self.is_plain(node.operand, depth)
        if isinstance(node, ast.BinOp):
            return self.is_plain(node.left, depth) and self.is_plain(node.right, depth)
        if isinstance(node, ast.Name):
            return True
        if isinstance(node, ast.Tuple):
            return all(self.is_plain(part, depth) for part in node.elts)
        if depth == 0 and isinstance(node, ast.List):
            return all(self.is_plain(part, 1) for part in node.elts)
        if depth == 0 and isinstance(node, ast.Dict):
            return all(self.is_plain(part, 1) for part in node.keys + node.values)
        return False

    def generic_visit(self, node):
        if isinstance(node, ast.stmt) and not isinstance(node, STATEMENTS):
            self.wrong("L6 statement", node)
        if isinstance(node, NO_EXPRESSIONS):
            self.wrong("L7 expression", getattr(node, "lineno", None) or self.parents[node])
        super().generic_visit(node)

    def visit_Import(self, node):
        self.wrong("L2 import", node)

    def visit_ImportFrom(self, node):
        names = [alias.name for alias in node.names]
        if node.level or "*" in names:
            self.wrong("L2 import", node)
        elif node.module in LIBRARY:
            if not set(names) <= LIBRARY[node.module] or any(alias.asname for alias in node.names):
                self.wrong("L2 library", node)
        elif not node.module.startswith(NAME + "."):
            self.wrong("L2 import", node)
        elif "defined" in self.known and not set(names) <= self.known["defined"].get(node.module, set()):
            self.wrong("L16 import", node)

    def visit_FunctionDef(self, node):
        if node.end_lineno - node.lineno + 1 > 40:
            self.wrong("L10 function", node)
        for decorator in node.decorator_list:
            told = ast.unparse(decorator)
            in_class = isinstance(self.parents[node], ast.ClassDef)
            if not in_class or not (told in ("property", "staticmethod", "classmethod") or told.endswith(".setter")):
                self.wrong("L4 decorator", node)
        if node.name.startswith("__"):
            if node.name not in DUNDERS or not isinstance(self.parents[node], ast.ClassDef):
                self.wrong("L5 methods", node)
        elif isinstance(self.parents[node], ast.ClassDef):
            if node.name in BARRED_NAMES or FRAME.match(node.name):
                self.wrong("L17 method", node)
        else:
            self.check_bound(node.name, node, nested=not isinstance(self.parents[node], ast.Module))
        if node.name == "__init__":
            for part in ast.walk(node):
                if isinstance(part, ast.Return) and part.value is not None:
                    self.wrong("L28 return", part)
        if node.name in ("__str__", "__repr__", "__len__") and not isinstance(node.body[-1], ast.Return):
            self.wrong("L28 return", node)
        for default in node.args.defaults + [part for part in node.args.kw_defaults if part is not None]:
            if not self.is_plain(default, 1):
                self.wrong("L4 default", node)
        self.check_sets(node)
        self.generic_visit(node)

    def check_sets(self, node):
        """A stored set is assigned once, and only asked and filled."""
        for part in ast.walk(node):
            if isinstance(part, ast.Assign) and self.is_set(part.value):
                name = part.targets[0].id if isinstance(part.targets[0], ast.Name) else None
                used = [x for x in ast.walk(node) if isinstance(x, ast.Name) and x.id == name]
                if name is None or len(part.targets) > 1 or sum(isinstance(x.ctx, ast.Store) for x in used) > 1:
                    self.wrong("L24 set", part)
                for name in used:
                    if not isinstance(name.ctx, ast.Store) and not self.is_asked(name):
                        self.wrong("L24 use", name)

    def is_set(self, node):
        is_call = isinstance(node, ast.Call) and isinstance(node.func, ast.Name) and node.func.id == "set"
        return is_call or isinstance(node, (ast.Set, ast.SetComp))

    def is_asked(self, node):
        parent = self.parents[node]
        if isinstance(parent, ast.Attribute):
            return parent.attr in ("add", "discard")
        if isinstance(parent, ast.Compare):
            return all(isinstance(op, (ast.In, ast.NotIn, ast.Eq, ast.NotEq)) for op in parent.ops)
        if isinstance(parent, ast.Call):
            return isinstance(parent.func, ast.Name) and parent.func.id in ("len", "sorted")
        return isinstance(parent, (ast.If, ast.While, ast.BoolOp, ast.UnaryOp, ast.IfExp, ast.Assert))

    def visit_ClassDef(self, node):
        if not isinstance(self.parents[node], ast.Module):
            self.wrong("L15 class", node)
        if node.decorator_list or node.keywords:
            self.wrong("L5 class", node)
        self.check_bound(node.name, node, nested=False)
        names = [part.name for part in node.body if isinstance(part, ast.FunctionDef)]
        if len(set(names)) < len(names) and "setter" not in self.text:
            self.wrong("L18 twice", node)
        for part in node.body:
            if not isinstance(part, (ast.FunctionDef, ast.Assign)) and getattr(part, "value",
                    None) not in self.docstrings:
                self.wrong("L5 body", part)
        self.generic_visit(node)

    def visit_Lambda(self, node):
        if node.args.vararg or node.args.kwarg or node.args.kwonlyargs:
            self.wrong("L4 lambda", node)
        self.generic_visit(node)

    def visit_arg(self, node):
        self.check_bound(node.arg, node, nested=True)

    def check_bound(self, name, node, nested):
        if name in ALL_BUILTINS:
            self.wrong("L15 name", node)
        if name in BARRED_NAMES or FRAME.match(name):
            self.wrong("L17 name", node)
        if not re.fullmatch(r"_?[A-Za-z][A-Za-z0-9_]*|_", name) or name.startswith(BARRED_STARTS):
            self.wrong("L12 name", node)
        if nested and name in self.imported | self.classes:
            self.wrong("L15 shadow", node)

    def visit_Name(self, node):
        in_function = self.function_of(node) is not None
        if isinstance(node.ctx, ast.Store):
            self.check_bound(node.id, node, nested=in_function)
        elif node.id == "_" or node.id.startswith("__"):
            self.wrong("L12 read", node)
        elif node.id in ALL_BUILTINS and node.id not in BUILTINS:
            self.wrong("L8 builtin", node)
        elif node.id in LAZY | TAKING | {"len", "isinstance", "set", "divmod", "repr", "map", "iter", "next"}:
            parent = self.parents[node]
            is_class_told = isinstance(parent, ast.Call) and getattr(parent.func, "id", "") == "isinstance"
            is_class_told = is_class_told or isinstance(parent, ast.Tuple)
            if not (isinstance(parent, ast.Call) and parent.func is node) and not is_class_told:
                if not isinstance(parent, ast.keyword):
                    self.wrong("L22 stored", node)

    def function_of(self, node):
        while node in self.parents:
            node = self.parents[node]
            if isinstance(node, (ast.FunctionDef, ast.Lambda)):
                return node
        return None

    def visit_Attribute(self, node):
        parent = self.parents[node]
        called = isinstance(parent, ast.Call) and parent.func is node
        if node.attr in BARRED or FRAME.match(node.attr) or node.attr.startswith("__") and node.attr not in DUNDERS:
            self.wrong("L17 attribute", node)
        if called and node.attr not in METHODS | self.own:
            self.wrong("L25 method", node)
        if isinstance(node.ctx, ast.Store) and node.attr in BARRED_ATTRIBUTES:
            self.wrong("L26 attribute", node)
        if not called and node.attr in METHODS - {"count", "index", "title", "find", "get", "join", "lower", "upper",
                "split",
                                                  "strip", "copy", "add"}:
            self.wrong("L25 passed", node)
        self.generic_visit(node)

    def visit_Call(self, node):
        if isinstance(node.func, ast.Name):
            self.check_call(node, node.func.id)
        elif isinstance(node.func, ast.Attribute):
            if node.func.attr in METHODS - self.own and node.keywords:
                self.wrong("L25 keywords", node)
            if node.func.attr in VIEWS and not self.is_iterated(node):
                self.wrong("L23 view", node)
            if node.func.attr == "join" and not isinstance(node.func.value, ast.Constant):
                if any(isinstance(part, ast.GeneratorExp) for part in node.args):
                    self.wrong("L7 generator", node)
        elif not isinstance(node.func, (ast.Subscript, ast.Call)):
            self.wrong("L7 call", node)
        self.generic_visit(node)

    def check_call(self, node, name):
        keywords = {part.arg for part in node.keywords}
        if name in ALL_BUILTINS and not keywords <= TAKING_KEYS.get(name, set()):
            self.wrong("L22 keywords", node)
        if name in LAZY and not self.is_iterated(node):
            self.wrong("L23 lazy", node)
        if name == "set" and not self.is_set_place(node):
            self.wrong("L24 place", node)
        if name == "isinstance":
            told = node.args[1].elts if isinstance(node.args[1], ast.Tuple) else [node.args[1]]
            if not all(isinstance(part, ast.Name) for part in told):
                self.wrong("L22 isinstance", node)
        if name == "chr":
            self.wrong("L27 chr", node)

    def is_iterated(self, node):
        parent = self.parents[node]
        if isinstance(parent, (ast.For, ast.comprehension)):
            return parent.iter is node
        if isinstance(parent, ast.Call) and node in parent.args:
            if isinstance(parent.func, ast.Attribute):
                return parent.func.attr == "join"
            is_range = isinstance(node.func, ast.Name) and node.func.id == "range"
            return parent.func.id in TAKING | ({"reversed", "len"} if is_range else set())
        return isinstance(parent, ast.Compare) and all(isinstance(op, (ast.In, ast.NotIn)) for op in parent.ops)

    def is_set_place(self, node):
        parent = self.parents[node]
        if isinstance(parent, ast.Assign):
            return isinstance(parent.targets[0], ast.Name)
        if isinstance(parent, ast.Call):
            return isinstance(parent.func, ast.Name) and parent.func.id in ("sorted", "len") and not parent.keywords
        return isinstance(parent, ast.Compare)

    def visit_Set(self, node):
        if not self.is_set_place(node):
            self.wrong("L24 place", node)
        if sum(isinstance(part, ast.Constant) and isinstance(part.value, int) for part in node.elts) > 2:
            self.wrong("L13 set", node)
        self.generic_visit(node)

    def visit_SetComp(self, node):
        if not self.is_set_place(node):
            self.wrong("L24 place", node)
        self.generic_visit(node)

    def visit_GeneratorExp(self, node):
        # The package has a class with ==, so only these take one.
        parent = self.parents[node]
        name = getattr(parent.func, "id", getattr(parent.func, "attr", "")) if isinstance(parent, ast.Call) else ""
        if name not in ("list", "tuple", "dict", "join"):
            self.wrong("L7 generator", node)
        self.generic_visit(node)

    def visit_Compare(self, node):
        for op, other in zip(node.ops, node.comparators):
            if isinstance(op, (ast.Is, ast.IsNot)):
                if not (isinstance(other, ast.Constant) and other.value in (None, True, False)):
                    self.wrong("L20 is", node)
        self.generic_visit(node)

    def visit_BinOp(self, node):
        if isinstance(node.op, ast.Pow) and not isinstance(node.right, ast.Constant):
            self.wrong("L27 power", node)
        if isinstance(node.op, ast.Div):
            self.wrong("L7 division", node)
        self.generic_visit(node)

    def visit_AugAssign(self, node):
        if isinstance(node.op, ast.Div):
            self.wrong("L7 division", node)
        self.generic_visit(node)

    def visit_Constant(self, node):
        if isinstance(node.value, (float, complex)) or node.value is Ellipsis:
            self.wrong("L7 number", node)
        if isinstance(node.value, str):
            if "%" in node.value or node.value.endswith(("._", ".__")) or FRAME.match(node.value):
                self.wrong("L27 string", node)
            if len(node.value) > 3 and node.value.startswith("__") and node.value.endswith("__"):
                self.wrong("L27 string", node)
            words = set(re.findall(r"[A-Za-z_]+", node.value)) - {"type"}
            if node not in self.docstrings and words & BARRED_WORDS:
                self.wrong("L17 words", node)

    def visit_Expr(self, node):
        if not isinstance(node.value, (ast.Call, ast.Yield, ast.YieldFrom)) and node.value not in self.docstrings:
            self.wrong("L6 expression", node)
        self.generic_visit(node)

    def visit_Raise(self, node):
        if node.exc is not None and not (isinstance(node.exc, ast.Call) and isinstance(node.exc.func, ast.Name)):
            self.wrong("L19 raise", node)
        self.generic_visit(node)

    def visit_ExceptHandler(self, node):
        told = node.type.elts if isinstance(node.type, ast.Tuple) else [node.type]
        barred = {"Exception", "TypeError", "ArithmeticError", "OverflowError", "RuntimeError", "NotImplementedError",
                  "AttributeError"}
        if not told or any(not isinstance(part, ast.Name) or part.id in barred for part in told):
            self.wrong("L19 except", node)
        self.generic_visit(node)

    def visit_For(self, node):
        held = {ast.unparse(part) for part in ast.walk(node.iter) if isinstance(part, (ast.Name, ast.Attribute))}
        for part in [part for statement in node.body for part in ast.walk(statement)]:
            if isinstance(part, ast.Call) and isinstance(part.func, ast.Attribute) and part.func.attr in MODIFYING:
                if ast.unparse(part.func.value) in held:
                    self.wrong("L23 modified", part)
            if isinstance(part, (ast.Subscript, ast.Delete)) and isinstance(getattr(part, "ctx", None),
                    (ast.Store, ast.Del)):
                if ast.unparse(part.value) in held:
                    self.wrong("L23 modified", part)
        self.generic_visit(node)


def texts():
    """The texts of all files of the package by name."""
    found = {}
    for name in sorted(os.listdir(PACKAGE)):
        if name != "__pycache__":
            with open(os.path.join(PACKAGE, name), encoding="utf-8", newline="") as file:
                found[name] = file.read()
    return found


def known(found):
    """What is defined in each module, and the names of all methods and functions."""
    defined, methods = {}, set()
    for name, text in found.items():
        tree = ast.parse(text)
        names = {node.name for node in tree.body if isinstance(node, (ast.FunctionDef, ast.ClassDef))}
        names |= {part.id for node in tree.body if isinstance(node, ast.Assign) for part in node.targets}
        defined[NAME + "." + name[:-3]] = names
        methods |= {part.name for node in tree.body if isinstance(node, ast.ClassDef)
                    for part in node.body if isinstance(part, ast.FunctionDef)}
    return {"defined": defined, "methods": methods}


class TestFiles(unittest.TestCase):
    def test_rules(self):
        found = texts()
        told = known(found)
        for name, text in found.items():
            self.assertEqual(Lint(text, told).check(), [], name)

    def test_names_of_files(self):
        barred = BARRED_WORDS | ALL_BUILTINS | {"test", "tests", "testing", "site", "conftest", "sitecustomize"}
        found = texts()
        self.assertIn("__init__.py", found)
        self.assertLessEqual(len(found), 100)
        self.assertNotIn(NAME, sys.stdlib_module_names)
        for name in found:
            self.assertRegex(name, r"^[a-z0-9_]+\.py$")
            self.assertNotIn(name[:-3], barred)
            self.assertFalse(name.startswith(("law_", "test_")))

    def test_no_circles_of_imports(self):
        uses = {}
        for name, text in texts().items():
            modules = [node.module for node in ast.parse(text).body if isinstance(node, ast.ImportFrom)]
            uses[NAME + "." + name[:-3]] = {module for module in modules if module.startswith(NAME)}
        self.assertEqual(uses.pop(NAME + ".__init__"), set())
        done = set()
        while len(done) < len(uses):
            free = {name for name in uses if name not in done and uses[name] <= done}
            self.assertTrue(free, "imports in a circle")
            done |= free

    def test_attributes_are_assigned(self):
        trees = [ast.parse(text) for text in texts().values()]
        nodes = [node for tree in trees for node in ast.walk(tree)]
        assigned = {node.attr for node in nodes if isinstance(node, ast.Attribute) and isinstance(node.ctx, ast.Store)}
        methods = {node.name for node in nodes if isinstance(node, ast.FunctionDef)} | METHODS
        read = {node.attr for node in nodes if isinstance(node, ast.Attribute)}
        self.assertEqual(read - assigned - methods, set())

    def test_no_warnings(self):
        import warnings
        with warnings.catch_warnings():
            warnings.simplefilter("error")
            for name, text in texts().items():
                compile(text, name, "exec")


class TestLint(unittest.TestCase):
    def test_wrong_code_is_seen(self):
        wrong = {
            "L2": ["import os\n", "from os import path\n", "from .rows import core\n", "from math import pi\n",
                   "from ropesheld.rows import *\n", "def f():\n    import os\n"],
            "L3": ["X = [[1]]\n", "X = len('a')\n", "X, Y = 1, 2\n", "if True:\n    X = 1\n", "print(1)\n"],
            "L4": ["@cache\ndef f():\n    return 1\n", "def f(x=[]):\n    return x\n"],
            "L5": ["class A:\n    def __hash__(self):\n        return 1\n", "@total\nclass A:\n    pass\n"],
            "L6": ["def f():\n    global x\n", "async def f():\n    pass\n", "def f(x):\n    x\n",
                    "def f(x):\n    x == 1\n"],
            "L7": ["def f(x):\n    return x / 2\n", "X = 1.5\n", "def f(xs):\n    return any(x for x in xs)\n",
                    "def f(x):\n    x /= 2\n"],
            "L8": ["def f(x):\n    return hash(x)\n", "def f(x):\n    return pow(x, 2)\n",
                    "def f(x):\n    return open(x)\n"],
            "L10": ["def f():\n" + "    x = 1\n" * 41, "X = 1\n" * 400, "# " + "x" * 120 + "\n"],
            "L12": ["def f(_):\n    return _\n", "def f(__x):\n    return 1\n", "def f(_wall):\n    return 1\n"],
            "L13": ["def f(x):\n    xs = {1, 2, 3}\n    return x in xs\n"],
            "L14": ["X = '\u00e4'\n", "# \u00e4\n", "def f():\n\treturn 1\n"],
            "L15": ["X = 1\nX = 2\n", "def f(next):\n    return 1\n",
                    "from ropesheld.rows import core\n\n\ndef f(core):\n    return 1\n",
                    "def f():\n    hash = 1\n    return hash\n", "def f():\n    class A:\n        pass\n"],
            "L17": ["def f(x):\n    return type(x)\n", "def f(register):\n    return 1\n", "X = 'an enum'\n",
                    "def f(x):\n    return x.f_code\n"],
            "L19": ["def f():\n    try:\n        g()\n    except Exception:\n        pass\n",
                    "def f(x):\n    raise x\n",
                    "def f():\n    try:\n        g()\n    except:\n        pass\n"],
            "L20": ["def f(x, y):\n    return x is y\n"],
            "L22": ["def f(x):\n    return int(x, base=2)\n", "def f():\n    return len\n",
                    "def f(x, y):\n    return isinstance(x, y[0])\n"],
            "L23": ["def f(xs):\n    return zip(xs, xs)\n", "def f(d):\n    return d.items()\n",
                    "def f(xs):\n    for x in xs:\n        xs.append(x)\n",
                    "def f(d):\n    for x in d:\n        d[x] = 1\n"],
            "L24": ["def f(xs):\n    return set(xs)\n", "def f(xs):\n    s = set(xs)\n    return s\n",
                    "def f(xs):\n    s, t = set(xs), 1\n",
                    "def f(xs):\n    s = set()\n    for x in s:\n        pass\n",
                    "def f(xs):\n    g({x for x in xs})\n"],
            "L25": ["def f(x):\n    return x.isprintable2()\n", "def f(xs):\n    return xs.sort()\n",
                    "def f(x):\n    return x.split(sep='a')\n"],
            "L26": ["class A:\n    def __init__(self):\n        self.items = 1\n"],
            "L27": ["X = '100 %'\n", "def f(n):\n    return 2 ** n\n", "X = 'a\\x00'\n", "X = 'a._'\n",
                    "X = '__odd__'\n"],
            "L28": ["class A:\n    def __init__(self):\n        return None\n"],
        }
        for rule, snippets in wrong.items():
            for text in snippets:
                rules = [told.split()[0] for told, _ in Lint(text).check()]
                self.assertIn(rule, rules, text)

    def test_right_code_is_left_alone(self):
        right = [
            '"""Words."""\n\nfrom math import gcd\n\nfrom ropesheld.rows import core\n\nX = (1, -2)\n'
            'TABLE = {"a": (1, 2)}\n\n\ndef f(row, many=X):\n    """Words: type, enum."""\n    seen = set()\n'
            '    for at, sign in enumerate(row):\n        seen.add((at, sign))\n'
            '    return gcd(len(seen), many), core(row), tuple([x for x in range(3)])\n']
        for text in right:
            self.assertEqual(Lint(text).check(), [])


if __name__ == "__main__":
    unittest.main()

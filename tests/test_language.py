"""The rules of the language that can be seen in a file by itself, number by number."""

import ast
import builtins
import re
import unittest
import warnings
from pathlib import Path

PACKAGE = Path(__file__).resolve().parent.parent / "seatsahead"
LIBRARY = {
    "heapq": "heappush heappop heapify heapreplace heappushpop",
    "math": "gcd lcm isqrt comb perm factorial",
    "itertools": "product combinations permutations chain accumulate pairwise islice zip_longest",
    "collections": "defaultdict",
    "__future__": "annotations",
}
BUILTINS = set("""len range enumerate zip min max sum abs sorted reversed int str bool bytes list tuple dict set
    frozenset isinstance ord repr any all divmod pow getattr hasattr setattr iter next map super property staticmethod
    classmethod object float Exception ValueError TypeError KeyError IndexError LookupError ZeroDivisionError
    ArithmeticError OverflowError RuntimeError NotImplementedError AttributeError StopIteration
    NotImplemented""".split())
CAUGHT = {"KeyError", "ZeroDivisionError", "StopIteration", "ValueError", "LookupError", "IndexError"}
METHODS = set("""append clear copy count endswith extend find get index insert isalnum isalpha isdigit islower isspace
    isupper items join keys ljust lower lstrip partition pop remove replace reverse rfind rjust rpartition rsplit
    rstrip setdefault split splitlines startswith strip update upper values zfill bit_length title capitalize swapcase
    casefold center expandtabs removeprefix removesuffix rindex isascii isdecimal isnumeric istitle isidentifier
    isprintable translate maketrans sort add discard format from_iterable encode decode hex from_bytes
    __init__""".split())
DOUBLE = set("""__init__ __eq__ __repr__ __str__ __len__ __enter__ __exit__ __call__ __iter__ __lt__ __le__ __gt__
    __ge__ __ne__ __add__ __sub__ __mul__ __floordiv__ __mod__ __pow__ __and__ __or__ __xor__ __lshift__ __rshift__
    __radd__ __rsub__ __rmul__ __rfloordiv__ __rmod__ __rand__ __ror__ __rxor__ __rlshift__ __rrshift__ __iadd__
    __isub__ __imul__ __ifloordiv__ __imod__ __ipow__ __iand__ __ior__ __ixor__ __ilshift__ __irshift__ __neg__
    __pos__ __invert__ __abs__ __bool__ __contains__ __getitem__ __setitem__""".split())
BARRED = set("""typing typing_extensions enum Enum IntEnum StrEnum Flag IntFlag Generic Protocol ABC ABCMeta
    namedtuple NamedTuple TypedDict TYPE_CHECKING abstractmethod register mro elements open input law version_info
    with_traceback add_note""".split())
STATEMENTS = (ast.Global, ast.AsyncFunctionDef, ast.AsyncFor, ast.AsyncWith, ast.Await, ast.Import)
NONE = None.__class__
TAKES_A_LIST = {"any", "all", "min", "max", "sum", "sorted"}


def files():
    return [path for path in sorted(PACKAGE.rglob("*")) if "__pycache__" not in path.parts]


def text_faults(path, text):
    """L10, L14 and the words of L12 and L17."""
    lines = text.split("\n")
    if len(lines) > 400:
        yield "L10", 400
    for number, line in enumerate(lines, 1):
        if len(line) > 120:
            yield "L10", number
        if not all(" " <= sign <= "~" for sign in line):
            yield "L14", number
        if "_wall" in line or "_WallAttr" in line:
            yield "L12", number


def top_faults(tree):
    """L2, L3 and L15: what stands outside of all functions."""
    bound = []
    past_imports = False
    for node in tree.body:
        if isinstance(node, ast.ImportFrom):
            names = [name.name for name in node.names]
            bound += names
            own = node.level == 0 and node.module.startswith("seatsahead.") and "*" not in names
            if past_imports or not own and not set(names) <= set(LIBRARY.get(node.module, "").split()):
                yield "L2", node.lineno
        elif isinstance(node, (ast.FunctionDef, ast.ClassDef)):
            bound.append(node.name)
        elif isinstance(node, ast.Assign) and len(node.targets) == 1 and isinstance(node.targets[0], ast.Name):
            bound.append(node.targets[0].id)
        elif not (isinstance(node, ast.Expr) and isinstance(node.value, ast.Constant) and node is tree.body[0]):
            yield "L3", node.lineno
        past_imports = past_imports or not isinstance(node, (ast.ImportFrom, ast.Expr))
    if len(bound) != len(set(bound)):
        yield "L15", 0


def function_faults(node, in_class):
    """L4, L5 and L10 of one function or method."""
    if node.end_lineno - node.lineno + 1 > 40:
        yield "L10", node.lineno
    for decorator in node.decorator_list:
        told = ast.unparse(decorator)
        setter = told == f"{node.name}.setter"
        if not in_class or not (told in ("property", "staticmethod", "classmethod") or setter):
            yield "L4", node.lineno
    if node.name.startswith("__") and (not in_class or node.name not in DOUBLE):
        yield "L5", node.lineno


def node_faults(node, own):
    """The rules that a single expression or statement can break."""
    line = getattr(node, "lineno", 0)
    if isinstance(node, STATEMENTS):
        yield "L6", line
    elif isinstance(node, ast.Constant):
        yield from constant_faults(node, line)
    elif isinstance(node, ast.BinOp) and isinstance(node.op, (ast.Div, ast.MatMult)):
        yield "L7", line
    elif isinstance(node, ast.Set) and any(isinstance(item, ast.Starred) for item in node.elts):
        yield "L7", line
    elif isinstance(node, ast.Name):
        yield from name_faults(node.id, isinstance(node.ctx, ast.Store), line)
    elif isinstance(node, ast.arg):
        yield from name_faults(node.arg, True, line)
    elif isinstance(node, ast.Attribute) and node.attr in BARRED:
        yield "L17", line
    elif isinstance(node, ast.Compare):
        yield from identity_faults(node, line)
    elif isinstance(node, ast.ExceptHandler):
        yield from handler_faults(node, own, line)
    elif isinstance(node, ast.Call):
        yield from call_faults(node, own, line)


def constant_faults(node, line):
    if isinstance(node.value, (float, complex)):
        yield "L7", line
    if isinstance(node.value, str) and "%" in node.value:
        yield "L27", line


def name_faults(name, stored, line):
    if name in BARRED:
        yield "L17", line
    elif stored and hasattr(builtins, name):
        yield "L15", line
    elif hasattr(builtins, name) and name not in BUILTINS and not name.startswith("__"):
        yield "L8", line
    if not re.fullmatch("_?[A-Za-z][A-Za-z0-9_]*|_", name):
        yield "L12", line


def identity_faults(node, line):
    # A name may be self or an own object made once; which it is can't be told here.
    right = [isinstance(side, ast.Name) or isinstance(side, ast.Constant) and isinstance(side.value, (bool, NONE))
             for side in (node.left, *node.comparators)]
    if any(isinstance(sign, (ast.Is, ast.IsNot)) for sign in node.ops) and not any(right):
        yield "L20", line


def handler_faults(node, own, line):
    if node.type is None:
        yield "L6", line
        return
    for caught in node.type.elts if isinstance(node.type, ast.Tuple) else [node.type]:
        if not isinstance(caught, ast.Name) or caught.id not in CAUGHT | own:
            yield "L19", line


def call_faults(node, own, line):
    if isinstance(node.func, ast.Attribute) and node.func.attr not in METHODS | own:
        yield "L25", line
    if isinstance(node.func, ast.Name) and node.func.id in TAKES_A_LIST:
        if any(isinstance(given, ast.GeneratorExp) for given in node.args):
            yield "L7", line
    for given in node.args:
        if isinstance(given, ast.Starred) and not isinstance(given.value, (ast.Name, ast.Attribute, ast.List, ast.Tuple)):
            yield "L7", line
        library = isinstance(node.func, ast.Name) and node.func.id in LIBRARY["math"].split()
        if isinstance(given, ast.Starred) and library:
            yield "L7", line


def set_faults(tree):
    """L24: a set that is written down stands in sorted or len, behind in, or beside another one."""
    holders = {}
    for node in ast.walk(tree):
        for child in ast.iter_child_nodes(node):
            holders[child] = node
    for node in ast.walk(tree):
        made = isinstance(node, ast.Call) and isinstance(node.func, ast.Name) and node.func.id == "set"
        if made or isinstance(node, (ast.Set, ast.SetComp)):
            holder = holders[node]
            call = isinstance(holder, ast.Call) and isinstance(holder.func, ast.Name)
            if not (call and holder.func.id in ("sorted", "len") or isinstance(holder, (ast.Compare, ast.BinOp))):
                yield "L24", node.lineno


def binding_faults(tree):
    """L15: what is bound in a function has the name of no class and no import of its file."""
    taken = {name.name for node in tree.body if isinstance(node, ast.ImportFrom) for name in node.names}
    taken |= {node.name for node in tree.body if isinstance(node, ast.ClassDef)}
    nested = [inner for node in ast.walk(tree) if isinstance(node, ast.FunctionDef) for inner in ast.walk(node)
              if isinstance(inner, ast.FunctionDef) and inner is not node]
    for node in ast.walk(tree):
        bound = isinstance(node, ast.Name) and isinstance(node.ctx, ast.Store) and node.id
        bound = isinstance(node, ast.arg) and node.arg or node in nested and node.name or bound
        if bound in taken:
            yield "L15", node.lineno


def imports_of(tree):
    return [node.module for node in ast.walk(tree) if isinstance(node, ast.ImportFrom)]


def round_of(imports):
    """The names of files that import from one another, also through other files."""
    found = {(one, other) for one in imports for other in imports[one]}
    for middle in imports:
        found |= {(one, other) for one, near in found if near == middle for far, other in found if far == middle}
    return sorted(one for one, other in found if one == other)


def own_names(trees):
    """What the package defines itself: functions, methods, classes and attributes that are assigned."""
    own = set()
    for tree in trees:
        for node in ast.walk(tree):
            if isinstance(node, (ast.FunctionDef, ast.ClassDef)):
                own.add(node.name)
            elif isinstance(node, ast.Attribute) and isinstance(node.ctx, ast.Store):
                own.add(node.attr)
    return own


def faults(path, text, tree, own):
    yield from text_faults(path, text)
    yield from top_faults(tree)
    yield from set_faults(tree)
    yield from binding_faults(tree)
    methods = [item for node in ast.walk(tree) if isinstance(node, ast.ClassDef) for item in node.body]
    for node in ast.walk(tree):
        yield from node_faults(node, own)
        if isinstance(node, ast.FunctionDef):
            yield from function_faults(node, node in methods)
        if isinstance(node, (ast.FunctionDef, ast.ClassDef)) and node not in methods and hasattr(builtins, node.name):
            yield "L15", node.lineno


class TestLanguage(unittest.TestCase):

    def test_the_folder_holds_plain_files_alone(self):
        folders = [PACKAGE] + [path for path in files() if path.is_dir()]
        for path in files():
            if path.is_file():
                self.assertRegex(path.name, r"\A[a-z0-9_]+\.py\Z")
        for folder in folders:
            self.assertTrue((folder / "__init__.py").is_file(), folder)

    def test_each_file_keeps_the_rules(self):
        texts = {path: path.read_text(encoding="utf-8") for path in files() if path.suffix == ".py"}
        trees = {path: ast.parse(text) for path, text in texts.items() if path.name != "__main__.py"}
        own = own_names(trees.values())
        for path, tree in trees.items():
            with self.subTest(file=path.name):
                self.assertEqual(list(faults(path, texts[path], tree, own)), [])

    def test_no_two_files_import_from_each_other(self):
        imports = {f"seatsahead.{path.stem}": imports_of(ast.parse(path.read_text(encoding="utf-8")))
                   for path in files() if path.suffix == ".py"}
        self.assertEqual(round_of(imports), [])
        self.assertEqual(round_of({"a": ["b"], "b": ["c", "d"], "c": ["a"], "d": []}), ["a", "b", "c"])

    def test_each_name_that_is_imported_is_used(self):
        for path in files():
            if path.suffix == ".py":
                tree = ast.parse(path.read_text(encoding="utf-8"))
                told = {name.name for node in ast.walk(tree) if isinstance(node, ast.ImportFrom) for name in node.names}
                used = {node.id for node in ast.walk(tree) if isinstance(node, ast.Name)}
                self.assertEqual(told - used, set(), path.name)

    def test_no_line_gives_a_warning(self):
        with warnings.catch_warnings():
            warnings.simplefilter("error")
            for path in files():
                if path.suffix == ".py":
                    compile(path.read_text(encoding="utf-8"), path.name, "exec")

    def test_stars_that_may_not_stand(self):
        for text in ("def go(x):\n    return len({*x})", "def go(x):\n    return go(*x[1:])", "def go(x):\n    return go(*go(x))",
                     "def go(x):\n    return gcd(*x)"):
            self.assertIn("L7", [number for number, _ in faults(PACKAGE, text, ast.parse(text), set())])
        for text in ("def go(x):\n    return [*x, 1]", "def go(x):\n    return go(1, *x)", "def go(x):\n    return max(*x.y)"):
            self.assertEqual([number for number, _ in faults(PACKAGE, text, ast.parse(text), {"y"})], [])

    def test_names_that_are_taken(self):
        head = "from seatsahead.sizes import worst\nclass A:\n    def worst(self):\n        return worst(1)\n"
        self.assertEqual(list(binding_faults(ast.parse(head))), [])
        for text in ("def go(worst):\n    return 1", "def go():\n    for worst in (1, 2):\n        pass",
                     "def go():\n    def worst():\n        return 1\n    return worst", "def go(A):\n    return 1"):
            self.assertEqual([number for number, _ in binding_faults(ast.parse(head + text))], ["L15"])

    def test_a_broken_rule_is_seen(self):
        broken = {
            "L2": "from os import path", "L3": "print(1)", "L4": "@rule\ndef go():\n    pass",
            "L5": "class A:\n    def __hash__(self):\n        return 1", "L6": "def go():\n    global x",
            "L7": "def go(x):\n    return x / 2", "L8": "def go(x):\n    return chr(x)",
            "L10": "def go():\n" + "    pass\n" * 40, "L12": "def go():\n    __a = 1",
            "L14": "# \u00e9", "L15": "def go(id):\n    pass", "L17": "def go(x):\n    return x.mro",
            "L24": "def go(x):\n    y = set(x)\n    return sorted({a for a in x}), y",
            "L19": "def go():\n    try:\n        pass\n    except TypeError:\n        pass",
            "L20": "def go():\n    return 1 is 2", "L25": "def go(x):\n    return x.issubset(x)",
            "L27": "A = '%'",
        }
        for rule, text in broken.items():
            with self.subTest(rule=rule):
                found = [number for number, _ in faults(PACKAGE, text, ast.parse(text), set())]
                self.assertIn(rule, found)

"""The form of the program's own files, rule by rule (L1 to L28), as far as a reading of the code can see it."""

import ast
import builtins
import pathlib
import re
import unittest

PACKAGE = pathlib.Path(__file__).resolve().parent.parent / "crownwalk"

STATEMENTS = (
    ast.FunctionDef, ast.ClassDef, ast.Assign, ast.AugAssign, ast.If, ast.While, ast.For, ast.Return, ast.Break,
    ast.Continue, ast.Pass, ast.Raise, ast.Try, ast.Expr, ast.ImportFrom,
)
VALUES = (
    ast.Constant, ast.List, ast.Tuple, ast.Dict, ast.BinOp, ast.UnaryOp, ast.BoolOp, ast.Compare, ast.IfExp, ast.Call,
    ast.Attribute, ast.Subscript, ast.Slice, ast.ListComp, ast.JoinedStr, ast.FormattedValue, ast.Name, ast.Lambda,
)
OWN_NAMES = set(
    "len range enumerate zip min max sum abs sorted reversed int str bool list tuple dict set frozenset isinstance ord "
    "repr any all divmod Exception ValueError TypeError KeyError IndexError LookupError ZeroDivisionError "
    "ArithmeticError OverflowError RuntimeError NotImplementedError AttributeError StopIteration".split()
)
CHANGES = "append clear extend insert pop remove reverse setdefault update".split()
METHODS = set(
    "append clear copy count endswith extend find get index insert isalnum isalpha isdigit islower isspace isupper "
    "items join keys ljust lower lstrip partition pop remove replace reverse rfind rjust rpartition rsplit rstrip "
    "setdefault split splitlines startswith strip update upper values zfill bit_length".split()
)
NO_WORDS = (
    "type typing typing_extensions enum Enum IntEnum StrEnum Flag IntFlag Generic Protocol ABC ABCMeta namedtuple "
    "NamedTuple TypedDict TYPE_CHECKING abstractmethod register mro elements open input version_info with_traceback "
    "add_note"
).split()
NO_PARTS = ("dataclass", "overload", "contextmanager")
UNDERSCORED = ("__init__", "__eq__", "__repr__", "__str__", "__len__")
WALKED = ("zip", "enumerate", "reversed", "range")
WALKERS = ("list", "tuple", "dict", "sorted", "sum", "any", "all", "enumerate", "zip", "min", "max")
FILE_NAMES_NOT_USED = ("test", "tests", "testing", "site", "conftest", "sitecustomize", "usercustomize")


def called(node):
    """The name that a node calls, or None."""
    return node.func.id if isinstance(node, ast.Call) and isinstance(node.func, ast.Name) else None


def with_parents(tree):
    for node in ast.walk(tree):
        for child in ast.iter_child_nodes(node):
            child.parent = node
    return list(ast.walk(tree))


def is_plain(node):
    if isinstance(node, (ast.List, ast.Tuple)):
        return all(is_plain(item) for item in node.elts)
    if isinstance(node, ast.Dict):
        return all(is_plain(item) for item in node.keys + node.values)
    if isinstance(node, ast.UnaryOp):
        return isinstance(node.op, ast.USub) and is_plain(node.operand)
    return isinstance(node, (ast.Constant, ast.Name))


def bound_names(tree):
    """The names that a file binds at its top, but by imports."""
    names = []
    for node in tree.body:
        if isinstance(node, (ast.FunctionDef, ast.ClassDef)):
            names.append(node.name)
        if isinstance(node, ast.Assign):
            names.extend(target.id for target in node.targets if isinstance(target, ast.Name))
    return names


def local_names(nodes):
    """The names that a file's functions bind: parameters, and what is assigned or walked."""
    names = [node.arg for node in nodes if isinstance(node, ast.arg)]
    for node in nodes:
        if isinstance(node, ast.Name) and isinstance(node.ctx, ast.Store):
            names.append(node.id)
    return names


def text_faults(source):
    faults = []
    if not source.endswith("\n") or "\r" in source:
        faults.append("L14 row ends")
    if any(sign != "\n" and not " " <= sign <= "~" for sign in source):
        faults.append("L14 a sign that is not from the blank to ~")
    rows = source.split("\n")
    if len(rows) > 401 or any(len(row) > 120 for row in rows):
        faults.append("L10 size")
    for word in NO_WORDS:
        if re.search(rf"\b{word}\b", source):
            faults.append(f"L17 {word}")
    faults.extend(f"L17 {part}" for part in NO_PARTS if part in source)
    if re.search(r"\\[^nt\\'\"]", source):
        faults.append("L27 an escape")
    return faults


def top_faults(tree):
    faults = []
    for place, node in enumerate(tree.body):
        docstring = place == 0 and isinstance(node, ast.Expr) and isinstance(node.value, ast.Constant)
        plain = isinstance(node, ast.Assign) and is_plain(node.value)
        if not (docstring or plain or isinstance(node, (ast.ImportFrom, ast.FunctionDef, ast.ClassDef))):
            faults.append(f"L3 row {node.lineno}")
        # A list or dict at a file's top could be changed; tuples can't.
        if isinstance(node, ast.Assign) and any(isinstance(part, (ast.List, ast.Dict)) for part in ast.walk(node)):
            faults.append(f"L15 row {node.lineno}")
    names = bound_names(tree)
    if len(set(names)) < len(names):
        faults.append("L15 a name bound twice")
    return faults


def changed_names(node):
    """The names whose values a node changes, by a method or by an index."""
    names = []
    for part in ast.walk(node):
        if isinstance(part, ast.Attribute) and part.attr in CHANGES and isinstance(part.value, ast.Name):
            names.append(part.value.id)
        if isinstance(part, ast.Subscript) and isinstance(part.ctx, ast.Store) and isinstance(part.value, ast.Name):
            names.append(part.value.id)
    return names


def walk_faults(node):
    """Faults of a loop that changes what it walks."""
    if not isinstance(node, ast.For):
        return []
    walked = node.iter
    while isinstance(walked, ast.Call) and (called(walked) in WALKED or isinstance(walked.func, ast.Attribute)):
        walked = walked.args[0] if called(walked) in WALKED else walked.func.value
    changed = [name for part in node.body for name in changed_names(part)]
    return ["L23 changed while walked"] if isinstance(walked, ast.Name) and walked.id in changed else []


def class_faults(nodes, classes):
    """Faults of where the names of classes stand, and of what stands in a class."""
    faults = []
    for node in nodes:
        if isinstance(node, ast.Name) and node.id in classes:
            parent = node.parent
            made = isinstance(parent, ast.Call) and (parent.func == node or called(parent) == "isinstance")
            if not (made or isinstance(parent, (ast.ClassDef, ast.ExceptHandler))):
                faults.append(f"L18 {node.id}")
        # No class here needs a method, so what L26 and L28 ask of them is kept by having none.
        if isinstance(node, ast.FunctionDef) and isinstance(node.parent, ast.ClassDef):
            faults.append(f"L28 {node.name}")
    return faults


def definition_faults(node):
    faults = []
    if isinstance(node, ast.FunctionDef):
        given = node.args
        if given.vararg or given.kwarg or given.kwonlyargs or given.posonlyargs or node.decorator_list:
            faults.append("L4 parameters")
        if not all(is_plain(default) for default in given.defaults):
            faults.append("L4 defaults")
        if node.returns or any(arg.annotation for arg in given.args):
            faults.append("L21 annotations")
        if node.end_lineno - node.lineno >= 40:
            faults.append("L10 size")
    if isinstance(node, ast.ClassDef):
        if len(node.bases) > 1 or node.keywords or node.decorator_list or not isinstance(node.parent, ast.Module):
            faults.append("L5 or L15 a class")
        for part in node.body:
            docstring = isinstance(part, ast.Expr) and isinstance(part.value, ast.Constant)
            if not (docstring or isinstance(part, (ast.FunctionDef, ast.Pass))):
                faults.append("L5 a class body")
    return faults


def statement_faults(node):
    faults = []
    if isinstance(node, ast.stmt) and not isinstance(node, STATEMENTS):
        faults.append("L6 a statement")
    if isinstance(node, ast.Assign) and len(node.targets) != 1:
        faults.append("L6 targets")
    if isinstance(node, (ast.For, ast.While)) and node.orelse:
        faults.append("L6 else behind a loop")
    if isinstance(node, ast.Expr):
        first = isinstance(node.value, ast.Constant) and node.parent.body[0] == node
        if not (first or isinstance(node.value, ast.Call)):
            faults.append("L6 a value by itself")
    if isinstance(node, ast.Try) and node.finalbody:
        faults.append("L6 finally")
    if isinstance(node, ast.Raise) and not isinstance(node.exc, ast.Call):
        faults.append("L19 raise")
    if isinstance(node, ast.ExceptHandler):
        names = [part.id for part in ast.walk(node.type) if isinstance(part, ast.Name)] if node.type else []
        if not names or set(names) & {"Exception", "TypeError"}:
            faults.append("L19 except")
    return faults


def value_faults(node):
    faults = []
    if isinstance(node, ast.expr) and not isinstance(node, VALUES):
        faults.append("L7 a value")
    if isinstance(node, ast.Constant) and not isinstance(node.value, (int, str, type(None))):
        faults.append("L7 a constant")
    if isinstance(node, ast.Constant) and isinstance(node.value, str) and "%" in node.value:
        faults.append("L27 the sign for a hundredth")
    if isinstance(node, (ast.BinOp, ast.AugAssign)) and isinstance(node.op, (ast.Div, ast.MatMult)):
        faults.append("L7 an operator")
    if isinstance(node, ast.BinOp) and isinstance(node.op, ast.Pow) and not isinstance(node.right, ast.Constant):
        faults.append("L27 a power")
    if isinstance(node, ast.ListComp) and (len(node.generators) != 1 or len(node.generators[0].ifs) > 1):
        faults.append("L7 a comprehension")
    if isinstance(node, ast.FormattedValue) and not (isinstance(node.value, ast.Name) and node.format_spec is None):
        faults.append("L7 an f-string")
    if isinstance(node, ast.Compare):
        for operator, right in zip(node.ops, node.comparators):
            beside = isinstance(right, ast.Constant) and (right.value is None or isinstance(right.value, bool))
            if isinstance(operator, (ast.Is, ast.IsNot)) and not beside:
                faults.append("L20 is")
    return faults


def call_faults(node, methods):
    faults = []
    parent = node.parent
    if isinstance(node, ast.Attribute) and node.attr not in methods and isinstance(parent, ast.Call):
        if parent.func == node:
            faults.append(f"L25 {node.attr}")
    if called(node) in ("set", "frozenset"):
        within = called(parent) in ("sorted", "len") and not parent.keywords
        if not (within or isinstance(parent, (ast.Compare, ast.BinOp))):
            faults.append("L24 a set")
    if called(node) in WALKED or (isinstance(node, ast.Call) and isinstance(node.func, ast.Attribute)
                                  and node.func.attr in ("items", "keys", "values")):
        behind_in = isinstance(parent, (ast.For, ast.comprehension)) and parent.iter == node
        joined = isinstance(parent, ast.Call) and isinstance(parent.func, ast.Attribute) and parent.func.attr == "join"
        if not (behind_in or joined or called(parent) in WALKERS):
            faults.append("L23 walked at once")
    if isinstance(node, ast.Name) and node.id in OWN_NAMES and not isinstance(getattr(builtins, node.id), type):
        if not (isinstance(parent, ast.Call) and parent.func == node) and not isinstance(parent, ast.keyword):
            faults.append(f"L22 {node.id}")
    return faults


def name_faults(tree, nodes):
    faults = []
    imports = [part.name for node in nodes if isinstance(node, ast.ImportFrom) for part in node.names]
    own_classes = [node.name for node in nodes if isinstance(node, ast.ClassDef)]
    own = local_names(nodes) + [node.name for node in nodes if isinstance(node, (ast.FunctionDef, ast.ClassDef))]
    for name in own:
        if not re.fullmatch(r"[A-Za-z][A-Za-z0-9_]*", name) and name not in UNDERSCORED:
            faults.append(f"L12 {name}")
    for name in local_names(nodes) + bound_names(tree):
        if name in vars(builtins):
            faults.append(f"L15 {name}")
    faults.extend(f"L15 {name}" for name in local_names(nodes) if name in imports + own_classes)
    known = set(own) | set(imports) | OWN_NAMES
    for node in nodes:
        if isinstance(node, ast.Name) and node.id not in known:
            faults.append(f"L8 {node.id}")
    return faults


def import_faults(tree, nodes, others):
    """Faults of the imports, where others holds the names of each file of the package."""
    faults = []
    for node in nodes:
        if isinstance(node, ast.Import):
            faults.append("L16 import")
        if isinstance(node, ast.ImportFrom):
            name = (node.module or "").removeprefix("crownwalk.")
            if node.level or name not in others or node not in tree.body:
                faults.append(f"L2 {node.module}")
            elif any(part.asname or part.name not in others[name] for part in node.names):
                faults.append(f"L16 {node.module}")
    return faults


def faults_of(source, others):
    """Every fault of one file."""
    tree = ast.parse(source)
    nodes = with_parents(tree)
    methods = METHODS | {node.name for node in nodes if isinstance(node, ast.FunctionDef)}
    faults = text_faults(source) + top_faults(tree) + name_faults(tree, nodes) + import_faults(tree, nodes, others)
    faults += class_faults(nodes, [name for names in others.values() for name in names if name[0].isupper()
                                   and not name.isupper()])
    for node in nodes[1:]:
        faults += definition_faults(node) + statement_faults(node) + value_faults(node) + call_faults(node, methods)
        faults += walk_faults(node)
    return faults


def sources():
    return {path.stem: path.read_text(encoding="utf-8") for path in sorted(PACKAGE.glob("*.py"))}


def drawn_from(source):
    """The files that a file draws from."""
    return [node.module.removeprefix("crownwalk.") for node in ast.walk(ast.parse(source))
            if isinstance(node, ast.ImportFrom)]


class FormTest(unittest.TestCase):
    def test_only_plain_files_lie_in_the_package(self):
        self.assertTrue((PACKAGE / "__init__.py").is_file())
        for path in PACKAGE.iterdir():
            if path.name == "__pycache__":
                continue
            self.assertTrue(path.is_file(), path)
            self.assertRegex(path.name, r"^([a-z][a-z0-9_]*|__init__|__main__)\.py$")
            self.assertFalse(path.stem in FILE_NAMES_NOT_USED or path.stem.startswith("test_"), path)
            self.assertFalse(path.stem in vars(builtins), path)

    def test_every_file_keeps_to_the_form(self):
        told = sources()
        others = {name: bound_names(ast.parse(source)) for name, source in told.items()}
        for name, source in told.items():
            with self.subTest(file=name):
                self.assertEqual(faults_of(source, others), [])

    def test_no_two_files_draw_from_one_another(self):
        left = {name: drawn_from(source) for name, source in sources().items()}
        while left:
            free = [name for name, drawn in left.items() if not any(other in left for other in drawn)]
            self.assertTrue(free, f"a ring of imports among {sorted(left)}")
            left = {name: drawn for name, drawn in left.items() if name not in free}

    def test_the_first_file_draws_from_none_and_binds_nothing(self):
        tree = ast.parse(sources()["__init__"])
        self.assertEqual([type(node) for node in tree.body], [ast.Expr])

    def test_faults_are_found(self):
        wrong = {
            "L3": "print_all = [x for x in (1, 2)]\n",
            "L4": "def f(*a):\n    return a\n",
            "L5": "class A:\n    x = 1\n",
            "L6": "def f(a):\n    assert a\n",
            "L7": "def f(a):\n    return a / 2\n",
            "L8": "def f(a):\n    return float(a)\n",
            "L10": "def f(a):\n" + "    a += 1\n" * 40 + "    return a\n",
            "L12": "def f(a):\n    _ = a\n",
            "L14": "# \u00e9\n",
            "L15": "def f(id):\n    return id\n",
            "L16": "import time\n",
            "L17": "# a type\n",
            "L19": "def f(a):\n    raise ValueError\n",
            "L20": "def f(a):\n    return a is 3\n",
            "L21": "def f(a: int):\n    return a\n",
            "L22": "def f(a):\n    b = len\n    return b(a)\n",
            "L23": "def f(a):\n    return a in range(3)\n",
            "L24": "def f(a):\n    b = set(a)\n    return b\n",
            "L25": "def f(a):\n    return a.casefold()\n",
            "L27": "def f(a):\n    return '%d'\n",
            "L2": "from random import choice\n",
        }
        for rule, source in wrong.items():
            with self.subTest(rule=rule):
                self.assertIn(rule, [fault.split(" ")[0] for fault in faults_of(source, {})])

    def test_more_faults_are_found(self):
        wrong = (
            ("L15", "KEPT = [1]\n"),
            ("L15", "KEPT = ({1: 2},)\n"),
            ("L18", "def f(a):\n    return [a, Lost]\n"),
            ("L23", "def f(a):\n    for b in a:\n        a.append(b)\n"),
            ("L23", "def f(a):\n    for b, c in enumerate(a):\n        a[b] = c\n"),
            ("L23", "def f(a):\n    for b, c in a.items():\n        a.pop(b)\n"),
            ("L28", "class A:\n    def __len__(self):\n        return 0\n"),
        )
        for rule, source in wrong:
            with self.subTest(rule=rule, source=source):
                told = faults_of(source, {"errors": ["Lost"]})
                self.assertIn(rule, [fault.split(" ")[0] for fault in told])


if __name__ == "__main__":
    unittest.main()

"""The package keeps to ../shared/LANGUAGE.md, as far as a walk over its text and its syntax trees can tell.

Each rule is a function from a file to its complaints. Where a rule leaves something open that the program has no need
of (__main__.py, annotations, __eq__ and its like, taking Python's own ValueError), it's complained of here.
"""

import ast
import builtins
import pathlib
import re
import unittest

PACKAGE = pathlib.Path(__file__).resolve().parent.parent / "kanaturn"

STATEMENTS = (ast.Assign, ast.AugAssign, ast.If, ast.While, ast.For, ast.Return, ast.Break, ast.Continue, ast.Pass,
              ast.Raise, ast.Try, ast.Expr, ast.FunctionDef, ast.ClassDef, ast.ImportFrom)
EXPRESSIONS = (ast.Constant, ast.List, ast.Tuple, ast.Dict, ast.Set, ast.BinOp, ast.UnaryOp, ast.BoolOp, ast.Compare,
               ast.IfExp, ast.Call, ast.Attribute, ast.Subscript, ast.Slice, ast.ListComp, ast.Name, ast.Lambda,
               ast.JoinedStr, ast.FormattedValue)
FUNCTIONS = """len range enumerate zip min max sum abs sorted reversed int str bool list tuple dict set frozenset
    isinstance ord repr any all divmod""".split()
ERRORS = """Exception ValueError TypeError KeyError IndexError LookupError ZeroDivisionError ArithmeticError
    OverflowError RuntimeError NotImplementedError AttributeError StopIteration""".split()
METHODS = """append clear copy count endswith extend find get index insert isalnum isalpha isdigit islower isspace
    isupper items join keys ljust lower lstrip partition pop remove replace reverse rfind rjust rpartition rsplit
    rstrip setdefault split splitlines startswith strip update upper values zfill bit_length""".split()
CHANGING = "append clear extend insert pop remove reverse setdefault update".split()
READING = "get items keys values index count copy".split()
FREE_VALUES = "count index title find get join lower upper split strip copy add".split()
NO_VALUES = """items keys values pop update append clear extend insert remove reverse setdefault sort args encode
    format""".split()
WORDS_NOWHERE = re.compile(r"\b(type|typing|typing_extensions|enum|Enum|IntEnum|StrEnum|Flag|IntFlag|Generic|Protocol"
                           r"|ABC|ABCMeta|namedtuple|NamedTuple|TypedDict|TYPE_CHECKING|abstractmethod)\b"
                           r"|dataclass|overload|contextmanager")
NAMES_NOWHERE = """register mro elements open input version_info with_traceback add_note format format_map""".split()
FRAME_NAMES = re.compile(r"(f|tb|co|gi|cr|ag)_(back|next|names|code|globals|locals|builtins|frame|lineno|lasti|consts"
                         r"|varnames|trace|running|await|yieldfrom)\Z")
NO_NAMES = """attrgetter breakpoint builtins compile copyright credits delattr dir eval exec exit gc getattr globals
    hasattr help id importlib license locals methodcaller os quit setattr super type vars sys __name__""".split()
FILES_NOWHERE = "test tests testing site conftest sitecustomize usercustomize".split()
PLAIN_NAME = re.compile(r"[A-Za-z][A-Za-z0-9_]*\Z")
TOP_NAMES = ("__all__", "__version__")
KEYWORDS = {"sorted": ("key", "reverse"), "min": ("key", "default"), "max": ("key", "default"), "sum": ("start",),
            "enumerate": ("start",), "zip": ("strict",)}
KEYS = "len int str abs sum min max tuple".split()
WALKED_IN = "list tuple dict sorted sum any all enumerate zip".split()
PYTHONS_OWN = {name for kind in (str, int, list, tuple, dict, set, bytes) for name in dir(kind)}


class Source:
    """One file: its name without .py, its text, its tree, each node's parent."""

    def __init__(self, name, text):
        self.name, self.text, self.tree = name, text, ast.parse(text)
        self.nodes = list(ast.walk(self.tree))
        self.parents = {child: node for node in self.nodes for child in ast.iter_child_nodes(node)}
        self.classes = [node for node in self.nodes if isinstance(node, ast.ClassDef)]
        self.defs = [node for node in self.nodes if isinstance(node, ast.FunctionDef)]
        self.methods = [item.name for node in self.classes for item in node.body if isinstance(item, ast.FunctionDef)]
        self.values = [node.attr for node in self.nodes
                       if isinstance(node, ast.Attribute) and isinstance(node.ctx, ast.Store)]
        self.imports = [node for node in self.nodes if isinstance(node, ast.ImportFrom)]

    def of(self, *kinds):
        return [node for node in self.nodes if isinstance(node, kinds)]

    def top_names(self):
        """The names that this file itself binds at its top."""
        return [name for node in self.tree.body for child in (node, *getattr(node, "targets", ()))
                for name in bound_names(child)]

    def calls(self, *names):
        """The calls of one of Python's own names."""
        return [node for node in self.of(ast.Call) if isinstance(node.func, ast.Name) and node.func.id in names]

    def is_called(self, node):
        parent = self.parents[node]
        return isinstance(parent, ast.Call) and parent.func is node

    def is_key(self, node):
        parent = self.parents[node]
        return isinstance(parent, ast.keyword) and parent.arg == "key"


def bound_names(node):
    """The names that a node binds."""
    if isinstance(node, ast.Name) and isinstance(node.ctx, ast.Store):
        return [node.id]
    if isinstance(node, ast.arg):
        return [node.arg]
    if isinstance(node, (ast.FunctionDef, ast.ClassDef)):
        return [node.name]
    if isinstance(node, ast.ExceptHandler) and node.name:
        return [node.name]
    return []


def is_docstring(source, node):
    parent = source.parents[node]
    if not isinstance(node, ast.Expr) or not isinstance(parent, (ast.Module, ast.FunctionDef, ast.ClassDef)):
        return False
    return parent.body[0] is node and isinstance(node.value, ast.Constant) and isinstance(node.value.value, str)


def is_plain(node, known, within=False):
    """A plain value: numbers, texts, and rows of these and of functions defined above."""
    if isinstance(node, ast.UnaryOp) and isinstance(node.op, ast.USub):
        return isinstance(node.operand, ast.Constant) and isinstance(node.operand.value, int)
    if isinstance(node, ast.Constant):
        return True
    if isinstance(node, ast.Name):
        return node.id in known
    if within and isinstance(node, (ast.List, ast.Dict)):
        return False
    if isinstance(node, ast.Dict):
        return all(part is not None and is_plain(part, known, True) for part in node.keys + node.values)
    return isinstance(node, (ast.List, ast.Tuple)) and all(is_plain(part, known, True) for part in node.elts)


def l2_l16_imports(source, package):
    for node in source.of(ast.Import):
        yield node, "rows are from .. import .. alone"
    for node in source.imports:
        if not isinstance(source.parents[node], ast.Module):
            yield node, "an import that's not at the top"
            continue
        before = source.tree.body[:source.tree.body.index(node)]
        if any(not isinstance(other, (ast.ImportFrom, ast.Expr)) for other in before):
            yield node, "an import behind other things"
        if node.module == "__future__" and [alias.name for alias in node.names] == ["annotations"]:
            continue
        drawn = [other for other in package if node.level == 0 and node.module == "kanaturn." + other.name]
        for alias in node.names:
            if not drawn or alias.name not in drawn[0].top_names():
                yield node, f"{alias.name} is not drawn from the file that defines it"


def reached(first, steps):
    """All that can be reached from a name, in whatever many steps; steps has the next ones of each."""
    found, ahead = [], [first]
    while ahead:
        for name in steps.get(ahead.pop(), []):
            if name not in found:
                found.append(name)
                ahead.append(name)
    return found


def l16_no_ring(source, package):
    steps = {other.name: [row.module.partition(".")[2] for row in other.imports if row.module] for other in package}
    if source.name in reached(source.name, steps):
        yield source.tree, "files that draw from one another"
    if source.name == "__init__":
        for name in source.top_names():
            if name in [other.name for other in package]:
                yield source.tree, f"__init__ binds {name}, a file's name"


def l3_l15_the_top(source, package):
    names = source.top_names() + [alias.asname or alias.name for node in source.imports for alias in node.names]
    for name in names:
        if names.count(name) > 1:
            yield source.tree, f"{name} is bound twice"
    known = []
    for node in source.tree.body:
        if isinstance(node, ast.FunctionDef):
            known.append(node.name)
        elif isinstance(node, ast.Assign):
            if not isinstance(node.targets[0], ast.Name) or not is_plain(node.value, known):
                yield node, "not a name that's given a plain value"
        elif not isinstance(node, (ast.ImportFrom, ast.ClassDef)) and not is_docstring(source, node):
            yield node, "not for a file's top"


def l15_top_rows_are_only_read(source, package):
    rows = [node.targets[0].id for node in source.tree.body if isinstance(node, ast.Assign)
            and isinstance(node.value, (ast.List, ast.Dict)) and isinstance(node.targets[0], ast.Name)]
    for node in source.of(ast.Name):
        if node.id not in rows or isinstance(source.parents[node], ast.Assign) and isinstance(node.ctx, ast.Store):
            continue
        parent = source.parents[node]
        read = isinstance(parent, (ast.For, ast.comprehension, ast.Compare))
        read = read or isinstance(parent, ast.Subscript) and isinstance(parent.ctx, ast.Load)
        read = read or isinstance(parent, ast.Call) and getattr(parent.func, "id", "") in FUNCTIONS
        if not read and not (isinstance(parent, ast.Attribute) and parent.attr in READING):
            yield node, f"{node.id} is not only read"


def l4_l21_functions(source, package):
    for node in source.of(ast.FunctionDef, ast.Lambda):
        told = node.args
        if told.vararg or told.kwarg or told.kwonlyargs or told.posonlyargs:
            yield node, "not plain parameters"
        if not all(is_plain(value, [], True) for value in told.defaults):
            yield node, "a default that's not plain"
    for node in source.defs:
        if node.decorator_list:
            yield node, "a decorator"
        if node.returns or any(told.annotation for told in node.args.args):
            yield node, "an annotation"


def l5_classes(source, package):
    own = [node.name for other in package for node in other.classes]
    for node in source.classes:
        if not isinstance(source.parents[node], ast.Module):
            yield node, "a class that's not at the top"
        bases = [getattr(base, "id", "") for base in node.bases]
        allowed = own + [name for name in ERRORS if name not in ("StopIteration", "AttributeError")]
        if node.decorator_list or node.keywords or len(bases) > 1 or any(base not in allowed for base in bases):
            yield node, "not a plain class"
        for item in node.body:
            if not isinstance(item, (ast.FunctionDef, ast.Pass)) and not is_docstring(source, item):
                yield item, "a value in a class's body"
        methods = [item.name for item in node.body if isinstance(item, ast.FunctionDef)]
        if len(methods) > len(set(methods)):
            yield node, "a method that stands twice"


def l18_classes_are_not_kept(source, package):
    own = [node.name for other in package for node in other.classes]
    for node in source.of(ast.Name):
        parent = source.parents[node]
        around = source.parents.get(parent)
        if node.id in own + ERRORS and not (
                source.is_called(node) or isinstance(parent, (ast.ClassDef, ast.ExceptHandler))
                or isinstance(parent, ast.Attribute) and parent.attr == "__init__"
                or isinstance(parent, ast.Tuple) and isinstance(around, ast.ExceptHandler)
                or any(parent in (call, call.args[1]) for call in source.calls("isinstance"))):
            yield node, f"the class {node.id} is kept or handed on"
    tops = source.top_names() + [alias.name for row in source.imports for alias in row.names]
    for node in source.of(ast.Attribute):
        if isinstance(node.ctx, ast.Store) and getattr(node.value, "id", "") in tops:
            yield node, "a value given to a name of the file's top"


def l18_l26_methods_and_values(source, package):
    values = [name for other in package for name in other.values]
    for name in source.methods:
        if name in values:
            yield source.tree, f"{name} is a method and a value"
        if name in PYTHONS_OWN and name not in METHODS + ["add", "discard", "__init__"]:
            yield source.tree, f"a method {name}"
    for name in source.values:
        if name in NO_VALUES or name in PYTHONS_OWN and name not in FREE_VALUES:
            yield source.tree, f"a value {name}"


def l6_statements(source, package):
    for node in source.of(ast.stmt):
        if not isinstance(node, STATEMENTS):
            yield node, "no such statement"
        if isinstance(node, ast.Expr) and not isinstance(node.value, ast.Call) and not is_docstring(source, node):
            yield node, "not a call by itself"
        if isinstance(node, (ast.For, ast.While)) and node.orelse or isinstance(node, ast.Try) and node.finalbody:
            yield node, "else behind a loop, or finally"
        if isinstance(node, ast.Assign):
            if len(node.targets) > 1 or not isinstance(node.targets[0], (ast.Name, ast.Attribute, ast.Subscript)):
                yield node, "more than one target"


def l7_expressions(source, package):
    for node in source.of(ast.expr):
        if not isinstance(node, EXPRESSIONS):
            yield node, "no such expression"
        if isinstance(node, ast.Constant) and type(node.value) not in (int, str, bool, type(None)):
            yield node, "no such value"
        if isinstance(node, (ast.BinOp)) and isinstance(node.op, (ast.Div, ast.MatMult)):
            yield node, "no such operator"
        if isinstance(node, ast.ListComp) and (len(node.generators) > 1 or len(node.generators[0].ifs) > 1):
            yield node, "more than one for or if"
        if isinstance(node, ast.FormattedValue):
            if not isinstance(node.value, ast.Name) or node.conversion not in (-1, 114) or node.format_spec:
                yield node, "not a plain {name}"
    for node in source.of(ast.AugAssign):
        if isinstance(node.op, (ast.Div, ast.MatMult)):
            yield node, "no such operator"


def l8_l12_l17_names(source, package):
    for node in source.nodes:
        for name in bound_names(node):
            if not PLAIN_NAME.match(name) and name not in ("__init__", *TOP_NAMES):
                yield node, f"{name} is no plain name"
            if name in NAMES_NOWHERE + NO_NAMES:
                yield node, f"the name {name}"
            if name in dir(builtins) and name not in source.methods:
                yield node, f"{name} is given another meaning"
        if isinstance(node, ast.Name):
            if node.id in dir(builtins) and node.id not in FUNCTIONS + ERRORS or node.id in NO_NAMES + NAMES_NOWHERE:
                yield node, f"the name {node.id}"
        if isinstance(node, ast.Attribute):
            if not PLAIN_NAME.match(node.attr) and node.attr != "__init__":
                yield node, f"{node.attr} is no plain name"
            if node.attr in NAMES_NOWHERE or FRAME_NAMES.match(node.attr):
                yield node, f"the attribute {node.attr}"
        if isinstance(node, ast.keyword) and node.arg is None:
            yield node, "a star"


def l10_l14_l17_text(source, package):
    rows = source.text.split("\n")
    if len(rows) - 1 > 400:
        yield source.tree, "more than 400 lines"
    for number, row in enumerate(rows, start=1):
        place = ast.Pass(lineno=number)
        if not re.match(r"[ -~]*\Z", row) or len(row) > 120:
            yield place, "a sign that's none, or a line above 120"
        if WORDS_NOWHERE.search(row):
            yield place, "a word that stands nowhere"
        for sign in re.findall(r"\\(.?)", row.replace("\\\\", "")):
            if sign not in ("n", "t", "'", '"'):
                yield place, "no such escape (L27)"
    for node in source.defs:
        if node.end_lineno - node.lineno + 1 > 40:
            yield node, "a function of more than 40 lines"


def l11_loops_not_recursion(source, package):
    called = {}
    for other in package:
        for node in other.defs:
            inner = [call.func for call in ast.walk(node) if isinstance(call, ast.Call)]
            names = [getattr(func, "id", getattr(func, "attr", "")) for func in inner]
            called.setdefault(node.name, []).extend([name for name in names if name not in METHODS])
    for node in source.defs:
        if node.name in reached(node.name, called):
            yield node, f"{node.name} calls itself"


def l13_l24_sets(source, package):
    for node in source.calls("set", "frozenset") + source.of(ast.Set):
        outer = node
        while isinstance(source.parents[outer], ast.BinOp):
            outer = source.parents[outer]
        parent = source.parents[outer]
        in_call = parent in source.calls("sorted", "len") and not parent.keywords
        if not in_call and not isinstance(parent, ast.Compare):
            yield node, "a set that's kept or walked"
    seen = []
    for node in source.of(ast.Lambda):
        told = (node.lineno, ast.unparse(node.args))
        if told in seen:
            yield node, "two lambdas with the same parameters on a line"
        seen.append(told)


def l15_locals(source, package):
    tops = [node.name for node in source.classes] + [alias.name for row in source.imports for alias in row.names]
    for node in source.of(ast.Name, ast.arg, ast.ExceptHandler):
        for name in bound_names(node):
            if name in tops:
                yield node, f"a local {name}, called like a class or an import"


def l19_errors(source, package):
    own = [node.name for other in package for node in other.classes]
    for node in source.of(ast.ExceptHandler):
        kinds = node.type.elts if isinstance(node.type, ast.Tuple) else [node.type]
        if any(getattr(kind, "id", "") not in own + ["KeyError", "ZeroDivisionError"] for kind in kinds):
            yield node, "an error that's not taken here"
    for node in source.of(ast.Raise):
        if not isinstance(node.exc, ast.Call) or not isinstance(node.exc.func, ast.Name):
            yield node, "an error that's not made on the spot"


def l20_is(source, package):
    for node in source.of(ast.Compare):
        beside = [side.value for side in (node.left, *node.comparators) if isinstance(side, ast.Constant)]
        written = [value for value in beside if value is None or isinstance(value, bool)]
        if not written and any(isinstance(sign, (ast.Is, ast.IsNot)) for sign in node.ops):
            yield node, "is beside something else"


def l22_pythons_own(source, package):
    for node in source.of(ast.Name):
        if node.id in FUNCTIONS and not source.is_called(node):
            beside = any(node in ast.walk(call.args[1]) for call in source.calls("isinstance"))
            if not beside and not (source.is_key(node) and node.id in KEYS):
                yield node, f"{node.id} is kept as a value"
    for node in source.calls(*FUNCTIONS, *ERRORS):
        for told in node.keywords:
            if told.arg not in KEYWORDS.get(node.func.id, ()):
                yield node, f"the keyword {told.arg}"
            if told.arg in ("reverse", "strict") and getattr(told.value, "value", None) not in (True, False):
                yield node, f"{told.arg} without a written True or False"
    for node in source.of(ast.Call):
        if isinstance(node.func, ast.Attribute) and node.func.attr in METHODS and node.keywords:
            yield node, f"a keyword at {node.func.attr}"


def is_walked_at_once(source, node):
    parent = source.parents[node]
    if isinstance(parent, (ast.For, ast.comprehension)):
        return parent.iter is node
    if not isinstance(parent, ast.Call) or node not in parent.args:
        return False
    if isinstance(parent.func, ast.Attribute):
        return parent.func.attr == "join" and isinstance(parent.func.value, ast.Constant)
    name = getattr(parent.func, "id", "")
    if name in ("min", "max"):
        return parent.args == [node]
    return name == "zip" or name in WALKED_IN and parent.args[0] is node


def l23_walked_at_once(source, package):
    by_method = [node for node in source.of(ast.Call) if isinstance(node.func, ast.Attribute)
                 and node.func.attr in ("items", "keys", "values")]
    for node in source.calls("zip", "enumerate", "reversed", "range") + by_method:
        if not is_walked_at_once(source, node):
            yield node, "not walked on the spot"


def walked_by(node):
    """What a loop walks, itself or through enumerate, zip, reversed, items, as it's written."""
    if not isinstance(node, ast.Call):
        return [ast.unparse(node)]
    if isinstance(node.func, ast.Attribute) and node.func.attr in ("items", "keys", "values"):
        return [ast.unparse(node.func.value)]
    if getattr(node.func, "id", "") in ("enumerate", "zip", "reversed"):
        return [walked for told in node.args for walked in walked_by(told)]
    return []


def l23_not_changed_in_the_walk(source, package):
    for loop in source.of(ast.For):
        walked = walked_by(loop.iter)
        for node in [inner for part in loop.body for inner in ast.walk(part)]:
            changed = None
            if isinstance(node, ast.Call) and isinstance(node.func, ast.Attribute) and node.func.attr in CHANGING:
                changed = node.func.value
            if isinstance(node, ast.Subscript) and isinstance(node.ctx, ast.Store):
                changed = node.value
            if changed is not None and ast.unparse(changed) in walked:
                yield node, "what a loop walks is changed in it"


def l25_methods(source, package):
    own = [name for other in package for name in other.methods]
    for node in source.of(ast.Attribute):
        if source.is_called(node):
            if node.attr not in METHODS + own:
                yield node, f"the method {node.attr}"
        elif node.attr in METHODS + own and not source.is_key(node) and node.attr not in source.values:
            yield node, f"the method {node.attr} is handed on"


def l27_numbers_and_texts(source, package):
    for node in source.of(ast.BinOp):
        if isinstance(node.op, ast.Pow) and getattr(node.right, "value", 65) not in range(65):
            yield node, "no written exponent"
    for node in source.of(ast.Constant):
        if isinstance(node.value, str) and "%" in node.value:
            yield node, "a sign % within a text"
        if isinstance(node.value, int) and abs(node.value) >= 10 ** 900:
            yield node, "a number of more than 900 digits"
    for node in source.calls("chr"):
        yield node, "chr"


def l28_two_underscores(source, package):
    for node in source.defs:
        if node.name == "__init__" and any(isinstance(inner, ast.Return) and inner.value for inner in ast.walk(node)):
            yield node, "__init__ gives something back"
        if node.name.startswith("__") and node.name != "__init__":
            yield node, f"{node.name}: best not written"


RULES = (l2_l16_imports, l16_no_ring, l3_l15_the_top, l15_top_rows_are_only_read, l4_l21_functions, l5_classes,
         l18_classes_are_not_kept, l18_l26_methods_and_values, l6_statements, l7_expressions, l8_l12_l17_names,
         l10_l14_l17_text, l11_loops_not_recursion, l13_l24_sets, l15_locals, l19_errors, l20_is, l22_pythons_own,
         l23_walked_at_once, l23_not_changed_in_the_walk, l25_methods, l27_numbers_and_texts, l28_two_underscores)


def complaints(package):
    """What's against the rules, as (rule, file, line, words)."""
    found = []
    for source in package:
        for rule in RULES:
            for node, told in rule(source, package):
                found.append((rule.__name__, source.name, getattr(node, "lineno", 0), told))
    return found


def package_sources():
    return [Source(path.stem, path.read_text(encoding="utf-8")) for path in sorted(PACKAGE.glob("*.py"))]


class Package(unittest.TestCase):
    def test_no_complaint(self):
        self.assertEqual(complaints(package_sources()), [])

    def test_files(self):
        names = [path.name for path in PACKAGE.rglob("*") if "__pycache__" not in path.parts]
        self.assertIn("__init__.py", names)
        for name in names:
            self.assertRegex(name, r"\A(__init__|[a-z][a-z0-9_]*)\.py\Z")
            stem = name[:-3]
            self.assertNotIn(stem, FILES_NOWHERE + dir(builtins))
            self.assertFalse(stem.startswith("test_") or WORDS_NOWHERE.search(stem), name)

    def test_each_file_says_what_it_is_for(self):
        for source in package_sources():
            self.assertTrue(ast.get_docstring(source.tree), source.name)


class RulesSee(unittest.TestCase):
    """Each rule complains of what it's against, and not of what's right."""

    RIGHT = '''"""A docstring."""

from kanaturn.other import Other, helped

LIMIT = -3
ROW = (1, 2, ("a", None))
TABLE = {"a": 1, "b": (2, 3)}


class Wrong(ValueError):
    def __init__(self, line):
        self.line = line


def plain(row, limit=4):
    found = []
    for number, told in enumerate(row, start=1):
        if told is not None and number in TABLE:
            found.append(f"{told} {number!r}")
    try:
        helped(row)
    except Wrong as e:
        raise Wrong(e.line)
    by_place = {}
    for place in list(by_place):
        by_place.pop(place)
    most = max([len(text) for text in found if text], default=0)
    return sorted(found, key=lambda text: (len(text), text), reverse=True), len(set(found)), most ** 2, Other(1)
'''
    OTHER = '"""Another."""\n\n\nclass Other:\n    def __init__(self, number):\n        self.number = number\n\n\n' \
            'def helped(row):\n    return list(row)\n'

    def complained(self, text):
        found = complaints([Source("sample", text), Source("other", self.OTHER)])
        return sorted({rule for rule, name, line, told in found if name == "sample"})

    def test_what_is_right(self):
        self.assertEqual(self.complained(self.RIGHT), [])

    SAMPLES = (
        ("l2_l16_imports", "import sys\n"),
        ("l2_l16_imports", "from kanaturn.other import missing\n"),
        ("l2_l16_imports", "from kanaturn.other import *\n"),
        ("l2_l16_imports", "from .other import Other\n"),
        ("l2_l16_imports", "from random import choice\n"),
        ("l2_l16_imports", "def f():\n    from kanaturn.other import Other\n"),
        ("l2_l16_imports", "A = 1\nfrom kanaturn.other import Other\n"),
        ("l16_no_ring", "from kanaturn.sample import f\n\n\ndef f():\n    return 1\n"),
        ("l3_l15_the_top", "A = 1\nA = 2\n"),
        ("l3_l15_the_top", "A = 1 + 1\n"),
        ("l3_l15_the_top", "A = [[1], [2]]\n"),
        ("l3_l15_the_top", "A = f(1)\n"),
        ("l3_l15_the_top", "if True:\n    A = 1\n"),
        ("l15_top_rows_are_only_read", "A = [1]\n\n\ndef f():\n    A.append(2)\n"),
        ("l15_top_rows_are_only_read", "A = {}\n\n\ndef f():\n    A[1] = 2\n"),
        ("l15_top_rows_are_only_read", "A = [1]\n\n\ndef f():\n    return A\n"),
        ("l4_l21_functions", "def f(*row):\n    pass\n"),
        ("l4_l21_functions", "def f(a, *, b):\n    pass\n"),
        ("l4_l21_functions", "def f(a=g()):\n    pass\n"),
        ("l4_l21_functions", "def f(a: int):\n    pass\n"),
        ("l4_l21_functions", "@f\ndef g():\n    pass\n"),
        ("l5_classes", "class A:\n    value = 1\n"),
        ("l5_classes", "class A(int):\n    pass\n"),
        ("l5_classes", "class A(AttributeError):\n    pass\n"),
        ("l5_classes", "class A:\n    def f(self):\n        pass\n\n    def f(self):\n        pass\n"),
        ("l5_classes", "def f():\n    class A:\n        pass\n"),
        ("l18_classes_are_not_kept", "class A:\n    pass\n\n\ndef f():\n    return A\n"),
        ("l18_classes_are_not_kept", "class A:\n    pass\n\n\ndef f():\n    A.value = 1\n"),
        ("l18_l26_methods_and_values", "class A:\n    def line(self):\n        self.line = 1\n"),
        ("l18_l26_methods_and_values", "class A:\n    def number(self):\n        pass\n"),
        ("l18_l26_methods_and_values", "class A:\n    def sort(self):\n        pass\n"),
        ("l18_l26_methods_and_values", "def f(a):\n    a.items = 1\n"),
        ("l6_statements", "def f(a):\n    with a:\n        pass\n"),
        ("l6_statements", "def f(a):\n    assert a\n"),
        ("l6_statements", "def f(a):\n    del a[0]\n"),
        ("l6_statements", "def f(a):\n    a = b = 1\n"),
        ("l6_statements", "def f(a):\n    b, c = a\n"),
        ("l6_statements", "def f(a):\n    for b in a:\n        pass\n    else:\n        pass\n"),
        ("l6_statements", "def f(a):\n    a + 1\n"),
        ("l6_statements", "def f(a):\n    try:\n        g()\n    finally:\n        pass\n"),
        ("l7_expressions", "def f(a):\n    return a / 2\n"),
        ("l7_expressions", "def f(a):\n    a /= 2\n"),
        ("l7_expressions", "def f(a):\n    return 1.5\n"),
        ("l7_expressions", "def f(a):\n    return b'a'\n"),
        ("l7_expressions", "def f(a):\n    return sum(b for b in a)\n"),
        ("l7_expressions", "def f(a):\n    return {b: 1 for b in a}\n"),
        ("l7_expressions", "def f(a):\n    return [c for b in a for c in b]\n"),
        ("l7_expressions", "def f(a):\n    return [*a]\n"),
        ("l7_expressions", "def f(a):\n    yield a\n"),
        ("l7_expressions", "def f(a):\n    return f'{a:3}'\n"),
        ("l7_expressions", "def f(a):\n    return f'{a + 1}'\n"),
        ("l7_expressions", "def f(a):\n    if (b := a):\n        return b\n"),
        ("l8_l12_l17_names", "def f(a):\n    print(a)\n"),
        ("l8_l12_l17_names", "def f(a):\n    return map(f, a)\n"),
        ("l8_l12_l17_names", "def f(a):\n    return getattr(a, 'b')\n"),
        ("l8_l12_l17_names", "def f(hash):\n    return 1\n"),
        ("l8_l12_l17_names", "def f():\n    id = 1\n"),
        ("l8_l12_l17_names", "def f(a):\n    for _ in a:\n        pass\n"),
        ("l8_l12_l17_names", "def _f():\n    pass\n"),
        ("l8_l12_l17_names", "def f(a):\n    return a._b\n"),
        ("l8_l12_l17_names", "def f(a):\n    return a.__class__\n"),
        ("l8_l12_l17_names", "def f(a):\n    return a.f_back\n"),
        ("l8_l12_l17_names", "def f(a):\n    return '{}'.format(a)\n"),
        ("l8_l12_l17_names", "def register():\n    pass\n"),
        ("l10_l14_l17_text", "A = 1  # the type\n"),
        ("l10_l14_l17_text", "A = '\u3042'\n"),
        ("l10_l14_l17_text", "A = '\\x41'\n"),
        ("l10_l14_l17_text", "A = '" + "a" * 120 + "'\n"),
        ("l10_l14_l17_text", "def f():\n" + "    pass\n" * 40),
        ("l10_l14_l17_text", "# a\n" * 401),
        ("l10_l14_l17_text", "def f():\n\treturn 1\n"),
        ("l11_loops_not_recursion", "def f(a):\n    return f(a[1:])\n"),
        ("l11_loops_not_recursion", "def f(a):\n    return g(a[1:])\n\n\ndef g(a):\n    return f(a)\n"),
        ("l13_l24_sets", "def f(a):\n    b = set(a)\n"),
        ("l13_l24_sets", "def f(a):\n    for b in set(a):\n        pass\n"),
        ("l13_l24_sets", "def f(a):\n    return [lambda b: 1, lambda b: 2]\n"),
        ("l15_locals", "from kanaturn.other import helped\n\n\ndef f():\n    helped = 1\n"),
        ("l15_locals", "class A:\n    pass\n\n\ndef f(A):\n    pass\n"),
        ("l19_errors", "def f(a):\n    try:\n        f(a)\n    except Exception:\n        pass\n"),
        ("l19_errors", "def f(a):\n    try:\n        f(a)\n    except:\n        pass\n"),
        ("l19_errors", "def f(a):\n    raise a\n"),
        ("l19_errors", "def f(a):\n    raise ValueError\n"),
        ("l20_is", "def f(a, b):\n    return a is b\n"),
        ("l20_is", "def f(a):\n    return a is not (0, 1)[0]\n"),
        ("l22_pythons_own", "def f(a):\n    b = len\n"),
        ("l22_pythons_own", "def f(a):\n    return int(a, base=2)\n"),
        ("l22_pythons_own", "def f(a, b):\n    return sorted(a, reverse=b)\n"),
        ("l22_pythons_own", "def f(a):\n    return a.split(sep='b')\n"),
        ("l23_walked_at_once", "def f(a):\n    b = range(a)\n"),
        ("l23_walked_at_once", "def f(a):\n    return a.items()\n"),
        ("l23_walked_at_once", "def f(a):\n    return len(enumerate(a))\n"),
        ("l23_not_changed_in_the_walk", "def f(a):\n    for b in a:\n        a.append(b)\n"),
        ("l23_not_changed_in_the_walk", "def f(a):\n    for b, c in enumerate(a):\n        a[b] = 1\n"),
        ("l23_not_changed_in_the_walk", "def f(a):\n    for b, c in a.items():\n        a.pop(b)\n"),
        ("l23_not_changed_in_the_walk", "def f(a):\n    for b in a.rows[0]:\n        a.rows[0].append(b)\n"),
        ("l25_methods", "def f(a):\n    a.sort()\n"),
        ("l25_methods", "def f(a):\n    b = a.append\n"),
        ("l25_methods", "def f(a):\n    return 'a'.encode()\n"),
        ("l27_numbers_and_texts", "def f(a):\n    return 2 ** a\n"),
        ("l27_numbers_and_texts", "def f(a):\n    return 'a %'\n"),
        ("l27_numbers_and_texts", "def f(a):\n    return chr(a)\n"),
        ("l28_two_underscores", "class A:\n    def __init__(self):\n        return None\n"),
        ("l28_two_underscores", "class A:\n    def __hash__(self):\n        return 1\n"),
    )

    def test_what_is_wrong(self):
        for rule, text in self.SAMPLES:
            self.assertIn(rule, self.complained(text), text)

    def test_each_rule_has_a_sample(self):
        self.assertEqual({rule for rule, text in self.SAMPLES}, {rule.__name__ for rule in RULES})


if __name__ == "__main__":
    unittest.main()

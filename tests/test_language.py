"""Holds the package to the rules of LANGUAGE.md that can be read off its files one by one.

Each finding is a text that begins with the rule's number. What is not found here may still break a rule.
"""

import ast
import builtins
import pathlib
import re
import unittest

PACKAGE = pathlib.Path(__file__).resolve().parent.parent / "makeyard"

OWN_NAMES = set(
    "len range enumerate zip min max sum abs sorted reversed int str bool list tuple dict set frozenset isinstance "
    "ord repr any all divmod Exception ValueError TypeError KeyError IndexError LookupError ZeroDivisionError "
    "ArithmeticError OverflowError RuntimeError NotImplementedError AttributeError StopIteration".split()
)
UNUSED_NAMES = set(
    "register mro elements open input version_info with_traceback add_note attrgetter breakpoint builtins compile "
    "copyright credits delattr dir eval exec exit gc getattr globals hasattr help id importlib license locals "
    "methodcaller os quit setattr super type vars sys".split()
)
UNUSED_WORDS = re.compile(
    r"\b(type|typing|typing_extensions|enum|Enum|IntEnum|StrEnum|Flag|IntFlag|Generic|Protocol|ABC|ABCMeta|namedtuple"
    r"|NamedTuple|TypedDict|TYPE_CHECKING|abstractmethod)\b|dataclass|overload|contextmanager"
)
METHODS = set(
    "append clear copy count endswith extend find get index insert isalnum isalpha isdigit islower isspace isupper "
    "items join keys ljust lower lstrip partition pop remove replace reverse rfind rjust rpartition rsplit rstrip "
    "setdefault split splitlines startswith strip update upper values zfill bit_length".split()
)
KEYWORDS = {
    "sorted": "key reverse", "min": "key default", "max": "key default", "sum": "start", "enumerate": "start",
    "zip": "strict",
}
WALKS = {"items", "keys", "values"}
WALKERS = {"list", "tuple", "dict", "sorted", "sum", "any", "all", "enumerate", "zip", "min", "max"}
CHANGES = {"append", "clear", "extend", "insert", "pop", "remove", "reverse", "setdefault", "update"}
DUNDERS = {"__init__", "__eq__", "__repr__", "__str__", "__len__", "__all__", "__version__"}
FORMS = (
    ast.Module, ast.FunctionDef, ast.ClassDef, ast.arguments, ast.arg, ast.ImportFrom, ast.alias, ast.Lambda,
    ast.Assign, ast.AugAssign, ast.If, ast.While, ast.For, ast.Return, ast.Break, ast.Continue, ast.Pass, ast.Raise,
    ast.Try, ast.ExceptHandler, ast.Expr, ast.Constant, ast.Name, ast.List, ast.Tuple, ast.Dict, ast.Set, ast.BinOp,
    ast.UnaryOp, ast.BoolOp, ast.Compare, ast.IfExp, ast.Call, ast.keyword, ast.Attribute, ast.Subscript, ast.Slice,
    ast.ListComp, ast.comprehension, ast.JoinedStr, ast.FormattedValue, ast.operator, ast.unaryop, ast.boolop,
    ast.cmpop, ast.expr_context,
)


def is_plain_file_name(name):
    if not re.fullmatch(r"[a-z][a-z0-9_]*\.py", name) or hasattr(builtins, name[:-3]):
        return False
    return not re.fullmatch(r"(tests?|testing|test_.*|site|conftest|sitecustomize|usercustomize)\.py", name)


def file_findings(name, text):
    if name != "__init__.py" and not is_plain_file_name(name):
        yield "L14 file name"
    if not all(" " <= sign <= "~" or sign == "\n" for sign in text):
        yield "L14 sign"
    lines = text.split("\n")
    if len(lines) > 401:
        yield "L10 file too long"
    if any(len(line) > 120 for line in lines):
        yield "L10 line too long"
    if UNUSED_WORDS.search(text):
        yield "L17 word"


def bound_names(tree):
    for node in ast.walk(tree):
        if isinstance(node, (ast.FunctionDef, ast.ClassDef)):
            yield node.name
        elif isinstance(node, ast.arg):
            yield node.arg
        elif isinstance(node, ast.alias):
            yield node.asname or node.name
        elif isinstance(node, ast.ExceptHandler) and node.name:
            yield node.name
        elif isinstance(node, ast.Name) and isinstance(node.ctx, ast.Store):
            yield node.id


def name_findings(tree):
    bound = set(bound_names(tree))
    for name in sorted(bound):
        if name.startswith("_") and name not in DUNDERS:
            yield f"L12 {name}"
    for node in ast.walk(tree):
        if isinstance(node, ast.Name) and node.id not in bound | OWN_NAMES:
            yield f"L8 {node.id}"
        # A method may be called like one of Python's own; a parameter, a local or a file's name may not.
        if isinstance(node, ast.arg) and hasattr(builtins, node.arg):
            yield f"L15 {node.arg}"
        if isinstance(node, ast.Name) and isinstance(node.ctx, ast.Store) and hasattr(builtins, node.id):
            yield f"L15 {node.id}"
        if isinstance(node, ast.Name) and node.id in UNUSED_NAMES:
            yield f"L17 {node.id}"
        if isinstance(node, ast.Attribute) and node.attr.startswith("_") and node.attr != "__init__":
            yield f"L12 {node.attr}"


def is_none_or_truth(node):
    return isinstance(node, ast.Constant) and (node.value is None or isinstance(node.value, bool))


def form_findings(node, is_docstring):
    if not isinstance(node, FORMS):
        yield f"L6 {type(node).__name__}"
    if isinstance(node, ast.Expr) and not isinstance(node.value, ast.Call) and not is_docstring:
        yield "L6 an expression by itself"
    if isinstance(node, (ast.For, ast.While)) and node.orelse:
        yield "L6 else behind a loop"
    if isinstance(node, ast.Try) and node.finalbody:
        yield "L6 finally"
    if isinstance(node, ast.Assign) and len(node.targets) > 1:
        yield "L6 several targets"
    if isinstance(node, ast.Constant) and isinstance(node.value, (float, complex, bytes)):
        yield "L7 value"
    if isinstance(node, (ast.BinOp, ast.AugAssign)) and isinstance(node.op, (ast.Div, ast.MatMult)):
        yield "L7 operator"
    if isinstance(node, ast.ListComp) and (len(node.generators) > 1 or len(node.generators[0].ifs) > 1):
        yield "L7 list comprehension"
    if isinstance(node, (ast.FunctionDef, ast.Lambda)):
        if node.args.vararg or node.args.kwarg or node.args.kwonlyargs or node.args.posonlyargs:
            yield "L4 parameters"
    if isinstance(node, (ast.FunctionDef, ast.ClassDef)) and node.decorator_list:
        yield "L4 decorator"
    if isinstance(node, ast.FunctionDef) and node.end_lineno - node.lineno >= 40:
        yield f"L10 {node.name} too long"
    if isinstance(node, ast.ClassDef) and (len(node.bases) > 1 or node.keywords):
        yield "L5 bases"
    if isinstance(node, ast.ClassDef) and not all(isinstance(row, (ast.FunctionDef, ast.Pass)) for row in node.body):
        yield "L5 class body"
    if isinstance(node, ast.Compare) and any(isinstance(op, (ast.Is, ast.IsNot)) for op in node.ops):
        if not any(is_none_or_truth(side) for side in [node.left] + node.comparators):
            yield "L20 is"


def is_plain_value(node):
    if isinstance(node, (ast.List, ast.Tuple)):
        return all(is_plain_value(part) for part in node.elts)
    return isinstance(node, (ast.Constant, ast.Name))


def top_findings(tree):
    names = []
    for node in tree.body:
        if isinstance(node, (ast.FunctionDef, ast.ClassDef)):
            names.append(node.name)
        elif isinstance(node, ast.ImportFrom):
            names += [alias.asname or alias.name for alias in node.names]
        elif isinstance(node, ast.Assign) and is_plain_value(node.value):
            names += [target.id for target in node.targets if isinstance(target, ast.Name)]
        elif node is not tree.body[0] or ast.get_docstring(tree) is None:
            yield f"L3 line {node.lineno}"
    if len(set(names)) < len(names):
        yield "L15 a name bound twice at the top"
    taken = {node.name for node in tree.body if isinstance(node, ast.ClassDef)}
    taken |= {alias.name for node in tree.body if isinstance(node, ast.ImportFrom) for alias in node.names}
    for function in ast.walk(tree):
        if isinstance(function, ast.FunctionDef):
            for name in sorted(taken & set(bound_names(function)) - {function.name}):
                yield f"L15 {name}"


def call_findings(node):
    if isinstance(node, ast.Call) and node.keywords:
        name = node.func.id if isinstance(node.func, ast.Name) else ""
        if not {keyword.arg for keyword in node.keywords} <= set(KEYWORDS.get(name, "").split()):
            yield "L22 keyword"
    if isinstance(node, ast.ExceptHandler):
        if not isinstance(node.type, ast.Name) or node.type.id in OWN_NAMES - {"KeyError", "ZeroDivisionError"}:
            yield "L19 except"
    if isinstance(node, (ast.FunctionDef, ast.arg)) and (getattr(node, "returns", None) or
                                                         getattr(node, "annotation", None)):
        yield "L21 annotation"
    if isinstance(node, ast.Call) and isinstance(node.func, ast.Name) and node.func.id in ("set", "frozenset"):
        yield "L24 set"
    if isinstance(node, ast.Constant) and isinstance(node.value, str) and "%" in node.value:
        yield "L27 sign in a text"
    if isinstance(node, ast.BinOp) and isinstance(node.op, ast.Pow):
        yield "L27 power"


def is_walked_at_once(node):
    if isinstance(node, ast.Call) and isinstance(node.func, ast.Name):
        return node.func.id in ("zip", "enumerate", "reversed", "range")
    return isinstance(node, ast.Call) and isinstance(node.func, ast.Attribute) and node.func.attr in WALKS


def loop_findings(tree):
    walked = {id(node.iter) for node in ast.walk(tree) if isinstance(node, (ast.For, ast.comprehension))}
    for node in ast.walk(tree):
        if isinstance(node, ast.Call) and isinstance(node.func, ast.Name) and node.func.id in WALKERS and node.args:
            walked.add(id(node.args[0]))
    for node in ast.walk(tree):
        if is_walked_at_once(node) and id(node) not in walked:
            yield f"L23 line {node.lineno}"
        if isinstance(node, ast.For):
            names = {part.id for part in ast.walk(node.iter) if isinstance(part, ast.Name)} - {"self"}
            for part in ast.walk(node):
                if isinstance(part, ast.Attribute) and part.attr in CHANGES and isinstance(part.value, ast.Name):
                    if part.value.id in names:
                        yield f"L23 {part.value.id}"


def class_names(trees):
    """The methods of all classes, and the values of all objects."""
    methods = {row.name for tree in trees for node in tree.body if isinstance(node, ast.ClassDef)
               for row in node.body if isinstance(row, ast.FunctionDef)}
    values = {node.attr for tree in trees for node in ast.walk(tree)
              if isinstance(node, ast.Attribute) and isinstance(node.ctx, ast.Store)}
    return methods - DUNDERS, values


def attribute_findings(trees):
    methods, values = class_names(trees)
    for name in sorted(methods & values):
        yield f"L18 {name}"
    for name in sorted(methods | values):
        if any(hasattr(kind, name) for kind in (str, int, list, dict, set, bytes)) or name == "args":
            yield f"L26 {name}"
    for tree in trees:
        for node in ast.walk(tree):
            if isinstance(node, ast.Attribute) and node.attr not in methods | values | METHODS | DUNDERS:
                yield f"L25 {node.attr}"


def drawn_from(tree):
    return {node.module: [alias.name for alias in node.names] for node in tree.body if isinstance(node, ast.ImportFrom)}


def defined_in(tree):
    return set(bound_names(ast.Module([node for node in tree.body if not isinstance(node, ast.ImportFrom)], [])))


def all_drawn_from(trees, module):
    reached, waiting = set(), [module]
    while waiting:
        tree = trees.get(waiting.pop())
        new = set(drawn_from(tree)) - reached if tree else set()
        reached |= new
        waiting += sorted(new)
    return reached


def drawing_findings(trees):
    for module, tree in trees.items():
        for other, names in drawn_from(tree).items():
            if other not in trees or not set(names) <= defined_in(trees[other]):
                yield f"L16 {module} draws from {other}"
        if module in all_drawn_from(trees, module):
            yield f"L16 {module} draws from itself"


def import_findings(tree):
    for node in ast.walk(tree):
        if isinstance(node, ast.ImportFrom):
            if node not in tree.body:
                yield "L2 import not at the top"
            names = [alias.name for alias in node.names]
            if node.level or "*" in names or not (node.module or "").startswith("makeyard."):
                yield "L2 import"


def findings(name, text):
    tree = ast.parse(text)
    found = list(file_findings(name, text)) + list(name_findings(tree)) + list(import_findings(tree))
    found += list(top_findings(tree)) + list(loop_findings(tree))
    for node in ast.walk(tree):
        found += call_findings(node)
        found += form_findings(node, ast.get_docstring(tree) is not None and node is tree.body[0])
    return found


BROKEN = {
    "L2": "from os import path\n",
    "L3": "if 1:\n    A = 2\n",
    "L4": "def f(*rest):\n    return rest\n",
    "L5": "class A:\n    size = 1\n",
    "L6": "def f(a):\n    with a:\n        pass\n",
    "L7": "def f(a):\n    return a / 2\n",
    "L8": "def f(a):\n    return map(f, a)\n",
    "L10": "def f(a):\n" + "    a += 1\n" * 41,
    "L12": "def f(_a):\n    return 1\n",
    "L14": "# \u00e9\n",
    "L15": "def f(hash):\n    return 1\n",
    "L17": "# a type\n",
    "L19": "def f(a):\n    try:\n        a()\n    except ValueError:\n        pass\n",
    "L20": "def f(a):\n    return a is 1\n",
    "L21": "def f(a: int):\n    return a\n",
    "L22": "def f(a):\n    return dict(a=a)\n",
    "L23": "def f(a):\n    for b in a:\n        a.append(b)\n",
    "L24": "def f(a):\n    b = set(a)\n    return b\n",
    "L27": "def f(a):\n    return 2 ** a\n",
}
BROKEN_TOGETHER = {
    "L16": {"makeyard.a": "from makeyard.b import f\n\n\ndef g():\n    return f()\n",
            "makeyard.b": "from makeyard.a import g\n\n\ndef f():\n    return g()\n"},
    "L18": {"makeyard.a": "class A:\n    def size(self):\n        return 1\n",
            "makeyard.b": "class B:\n    def __init__(self):\n        self.size = 1\n"},
    "L25": {"makeyard.a": "def f(a):\n    return a.title()\n"},
    "L26": {"makeyard.a": "class A:\n    def __init__(self):\n        self.sort = 1\n"},
}


def findings_together(text_by_module):
    trees = {module: ast.parse(text) for module, text in text_by_module.items()}
    return list(drawing_findings(trees)) + list(attribute_findings(list(trees.values())))


class Language(unittest.TestCase):
    def test_the_package_holds_plain_files_alone(self):
        names = sorted(path.name for path in PACKAGE.iterdir() if path.name != "__pycache__")
        self.assertIn("__init__.py", names)
        self.assertEqual([name for name in names if not name.endswith(".py")], [])

    def test_each_file_keeps_to_the_rules(self):
        for path in sorted(PACKAGE.glob("*.py")):
            with self.subTest(file=path.name):
                self.assertEqual(findings(path.name, path.read_bytes().decode("utf-8")), [])

    def test_the_files_together_keep_to_the_rules(self):
        texts = {f"makeyard.{path.stem}": path.read_bytes().decode("utf-8") for path in sorted(PACKAGE.glob("*.py"))}
        self.assertEqual(findings_together(texts), [])

    def test_a_rule_broken_by_files_together_is_found(self):
        for rule, texts in BROKEN_TOGETHER.items():
            with self.subTest(rule=rule):
                self.assertIn(rule, [found.split()[0] for found in findings_together(texts)])

    def test_a_file_name_that_is_not_plain_is_found(self):
        for name in ("Yard.py", "sum.py", "tests.py", "test_yard.py", "site.py", "a-b.py", "_yard.py"):
            with self.subTest(name=name):
                self.assertEqual(findings(name, ""), ["L14 file name"])

    def test_a_broken_rule_is_found(self):
        for rule, text in BROKEN.items():
            with self.subTest(rule=rule):
                self.assertIn(rule, [found.split()[0] for found in findings("plain.py", text)])


if __name__ == "__main__":
    unittest.main()

"""Reads a file of the package and tells where it leaves the rules L1 to L28.

It sees what a single walk over the syntax can see; it is a net under the rules, not the rules.
"""

import ast
import builtins
import re
from types import NoneType

PACKAGE = "bridgecrews"
BUILTINS = set(dir(builtins))

OWN_NAMES = set(
    "len range enumerate zip min max sum abs sorted reversed int str bool list tuple dict set frozenset "
    "isinstance ord repr any all divmod Exception ValueError TypeError KeyError IndexError LookupError "
    "ZeroDivisionError ArithmeticError OverflowError RuntimeError NotImplementedError AttributeError "
    "StopIteration".split()
)
METHODS = set(
    "append clear copy count endswith extend find get index insert isalnum isalpha isdigit islower isspace "
    "isupper items join keys ljust lower lstrip partition pop remove replace reverse rfind rjust rpartition "
    "rsplit rstrip setdefault split splitlines startswith strip update upper values zfill bit_length".split()
)
CLASS_METHODS = {"__init__", "__eq__", "__repr__", "__str__", "__len__"}
NEVER_NAMED = set(
    "register mro elements open input version_info with_traceback add_note attrgetter breakpoint builtins "
    "compile copyright credits delattr dir eval exec exit gc getattr globals hasattr help id importlib license "
    "locals methodcaller os quit setattr super type vars sys".split()
)
WORDS = (
    "type typing typing_extensions enum Enum IntEnum StrEnum Flag IntFlag Generic Protocol ABC ABCMeta "
    "namedtuple NamedTuple TypedDict TYPE_CHECKING abstractmethod"
).split()
WITHIN_WORDS = ("dataclass", "overload", "contextmanager")
FILE_NAMES_OUT = {"test", "tests", "testing", "site", "conftest", "sitecustomize", "usercustomize"}

NODES = (
    ast.Module, ast.ImportFrom, ast.alias, ast.FunctionDef, ast.ClassDef, ast.arguments, ast.arg, ast.Lambda,
    ast.Assign, ast.AugAssign, ast.If, ast.While, ast.For, ast.Return, ast.Break, ast.Continue, ast.Pass,
    ast.Raise, ast.Try, ast.ExceptHandler, ast.Expr, ast.Constant, ast.List, ast.Tuple, ast.Dict, ast.Set,
    ast.BinOp, ast.UnaryOp, ast.BoolOp, ast.Compare, ast.IfExp, ast.Call, ast.keyword, ast.Attribute,
    ast.Subscript, ast.Slice, ast.ListComp, ast.comprehension, ast.JoinedStr, ast.FormattedValue, ast.Name,
    ast.expr_context, ast.operator, ast.unaryop, ast.boolop, ast.cmpop,
)
TOP_NODES = (ast.ImportFrom, ast.FunctionDef, ast.ClassDef, ast.Assign)


def breaches(name, text, own_methods=()):
    """The breaches of a file's text, each as a text that begins with the rule's number."""
    tree = ast.parse(text)
    found = file_breaches(name, text) + word_breaches(text) + top_breaches(tree)
    for node in ast.walk(tree):
        if isinstance(node, ast.Expr) and not isinstance(node.value, ast.Call) and node != tree.body[0]:
            found.append(f"L6: line {node.lineno} is a value by itself")
        found += node_breaches(node, own_methods)
    return found


def methods_of(texts):
    """The names of all methods that the classes of these files define."""
    classes = [node for text in texts for node in ast.parse(text).body if isinstance(node, ast.ClassDef)]
    return {part.name for node in classes for part in node.body if isinstance(part, ast.FunctionDef)}


def drawn_from(text):
    """The files of the package that a file imports from, without the package's name."""
    rows = [node for node in ast.parse(text).body if isinstance(node, ast.ImportFrom)]
    return [row.module.partition(".")[2] for row in rows if row.module.startswith(PACKAGE)]


def file_breaches(name, text):
    found = []
    stem = name.removesuffix(".py")
    if not name.endswith(".py") or not re.fullmatch(r"[a-z][a-z0-9_]*|__init__|__main__", stem):
        found.append(f"L1, L14: the file name {name}")
    if stem in FILE_NAMES_OUT or stem.startswith("test_") or stem in WORDS or stem in BUILTINS:
        found.append(f"L14: the file name {name}")
    lines = text.split("\n")
    if len(lines) - 1 > 400:
        found.append("L10: more than 400 lines")
    for number, line in enumerate(lines, 1):
        if len(line) > 120:
            found.append(f"L10: line {number} is too long")
        if not all(" " <= sign <= "~" for sign in line):
            found.append(f"L14: line {number} holds a sign that is out")
    return found


def word_breaches(text):
    found = [f"L17: the word {word}" for word in WORDS if re.search(rf"\b{word}\b", text)]
    return found + [f"L17: the word {word}" for word in WITHIN_WORDS if word in text]


def top_breaches(tree):
    found = []
    body = list(tree.body)
    if body and is_text(body[0]):
        body = body[1:]
    names = []
    for node in body:
        if not isinstance(node, TOP_NODES):
            found.append(f"L3: line {node.lineno} does something at the top")
        elif isinstance(node, ast.ImportFrom):
            names += [alias.asname or alias.name for alias in node.names]
        elif isinstance(node, ast.Assign):
            names += [target.id for target in node.targets if isinstance(target, ast.Name)]
            if any(isinstance(part, (ast.Call, ast.Set)) for part in ast.walk(node)):
                found.append(f"L3: line {node.lineno} is no plain value")
        else:
            names.append(node.name)
    return found + [f"L15: {name} is bound twice" for name in sorted(set(names)) if names.count(name) > 1]


def is_text(node):
    return isinstance(node, ast.Expr) and isinstance(node.value, ast.Constant) and isinstance(node.value.value, str)


def node_breaches(node, own_methods):
    where = f"line {getattr(node, 'lineno', '?')}"
    if not isinstance(node, NODES):
        return [f"L6, L7: {where}: {node.__class__.__name__}"]
    checks = {
        ast.ImportFrom: import_breaches,
        ast.FunctionDef: function_breaches,
        ast.ClassDef: class_breaches,
        ast.Constant: constant_breaches,
        ast.BinOp: sum_breaches,
        ast.Compare: comparison_breaches,
        ast.Name: name_breaches,
        ast.arg: name_breaches,
        ast.ExceptHandler: handler_breaches,
        ast.ListComp: comprehension_breaches,
        ast.FormattedValue: formatted_breaches,
    }
    found = []
    if isinstance(node, ast.Attribute):
        found = attribute_breaches(node)
    elif isinstance(node, ast.Call):
        found = call_breaches(node, own_methods)
    elif node.__class__ in checks:
        found = checks[node.__class__](node)
    elif isinstance(node, ast.Assign) and len(node.targets) > 1:
        found = ["L6: two targets"]
    elif isinstance(node, (ast.For, ast.While)) and node.orelse:
        found = ["L6: else behind a loop"]
    elif isinstance(node, ast.Try) and node.finalbody:
        found = ["L6: finally"]
    elif isinstance(node, ast.Raise) and not isinstance(node.exc, ast.Call):
        found = ["L19: raise without an error made on the spot"]
    return [f"{told} ({where})" for told in found]


def import_breaches(node):
    found = []
    if node.level or not (node.module == "__future__" or node.module.startswith(PACKAGE + ".")):
        found.append("L2: imports the package's own modules by their full names alone")
    if any(alias.name == "*" for alias in node.names):
        found.append("L2: import *")
    return found


def function_breaches(node):
    found = plain_name_breaches(node.name) if node.name not in CLASS_METHODS else []
    if node.end_lineno - node.lineno + 1 > 40:
        found.append(f"L10: {node.name} has more than 40 lines")
    if node.decorator_list:
        found.append(f"L4: {node.name} has a decorator")
    if node.args.vararg or node.args.kwarg or node.args.kwonlyargs or node.args.posonlyargs:
        found.append(f"L4: {node.name} has parameters that are not plain")
    return found


def class_breaches(node):
    found = plain_name_breaches(node.name)
    if node.decorator_list or node.keywords or len(node.bases) > 1:
        found.append(f"L5: the class {node.name} is not plain")
    if any(not isinstance(part, (ast.FunctionDef, ast.Pass)) for part in node.body):
        found.append(f"L5: the class {node.name} holds more than methods")
    return found


def constant_breaches(node):
    if isinstance(node.value, (float, complex, bytes)) or node.value is ...:
        return ["L7: neither a whole number nor a text"]
    if isinstance(node.value, str) and "%" in node.value:
        return ["L27: the percent sign in a text"]
    return []


def sum_breaches(node):
    if isinstance(node.op, (ast.Div, ast.MatMult)):
        return ["L7: an operator that is out"]
    if isinstance(node.op, ast.Pow):
        exponent = node.right.value if isinstance(node.right, ast.Constant) else None
        if not isinstance(exponent, int) or not 0 <= exponent <= 64:
            return ["L27: an exponent that is not written out or above 64"]
    return []


def comparison_breaches(node):
    for operator, right in zip(node.ops, node.comparators):
        if isinstance(operator, (ast.Is, ast.IsNot)):
            # Asked by kind, since 1 == True.
            if not (isinstance(right, ast.Constant) and isinstance(right.value, (bool, NoneType))):
                return ["L20: is beside another value"]
    return []


def plain_name_breaches(name):
    if not re.fullmatch(r"[A-Za-z][A-Za-z0-9_]*", name):
        return [f"L12: the name {name}"]
    if name in NEVER_NAMED:
        return [f"L17: the name {name}"]
    return []


def name_breaches(node):
    name = node.id if isinstance(node, ast.Name) else node.arg
    bound = isinstance(node, ast.arg) or isinstance(node.ctx, ast.Store)
    if bound and name in BUILTINS:
        return [f"L8, L15: {name} is given another meaning"]
    if name in BUILTINS and name not in OWN_NAMES:
        return [f"L8: {name}"]
    return plain_name_breaches(name)


def handler_breaches(node):
    if node.type is None:
        return ["L6: except of no named class"]
    named = [part.id for part in ast.walk(node.type) if isinstance(part, ast.Name)]
    return [f"L19: except {name}" for name in named if name in ("Exception", "TypeError")]


def comprehension_breaches(node):
    if len(node.generators) > 1 or len(node.generators[0].ifs) > 1:
        return ["L7: a comprehension with more than one for or if"]
    return []


def formatted_breaches(node):
    if not isinstance(node.value, ast.Name) or node.format_spec or node.conversion not in (-1, ord("r")):
        return ["L7: more than a plain name in an f-string"]
    return []


def attribute_breaches(node):
    if node.attr in CLASS_METHODS:
        return []
    if node.attr in ("format", "format_map", "sort"):
        return [f"L8, L25: {node.attr}"]
    return plain_name_breaches(node.attr)


def call_breaches(node, own_methods):
    if any(isinstance(part, ast.Starred) for part in node.args) or any(part.arg is None for part in node.keywords):
        return ["L7: a star"]
    if isinstance(node.func, ast.Attribute):
        if node.func.attr not in METHODS and node.func.attr not in own_methods:
            return [f"L25: the method {node.func.attr}"]
    return []

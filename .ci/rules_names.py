"""L8, L12, L15, L17, L26: names."""

import ast
import builtins
import re

from rules_text import FRAMES

ALLOWED = """len range enumerate zip min max sum abs sorted reversed int str bool bytes list tuple dict set frozenset
isinstance ord repr any all divmod Exception ValueError TypeError KeyError IndexError LookupError ZeroDivisionError
ArithmeticError OverflowError RuntimeError NotImplementedError AttributeError StopIteration NotImplemented property
staticmethod classmethod super iter next map""".split()
NOWHERE = "register mro elements open input law version_info with_traceback add_note".split()
NO_VARIABLES = """attrgetter breakpoint builtins compile copyright credits delattr dir eval exec exit gc getattr globals
hasattr help id importlib license locals methodcaller os quit setattr super type vars sys""".split()
PREFIXES = "_wall _pe_ _dcw_ _enum_ _cm_ _twin_re_ _lay_ _law_ _stub_ _sre _WallAttr".split()
ENDED = re.compile(r"^(_cold|_tuplegetter|_outside|_record|_written_out|_member_names)[0-9_]*$")
BUILTIN_KINDS = (str, int, list, dict, set, bytes, tuple)
# L25, L26: these names of methods of builtin values are free for own methods, and these for attributes.
FREE_METHODS = """append clear copy count endswith extend find get index insert isalnum isalpha isdigit islower isspace
isupper items join keys ljust lower lstrip partition pop remove replace reverse rfind rjust rpartition rsplit rstrip
setdefault split splitlines startswith strip update upper values zfill bit_length add discard""".split()
FREE_ATTRIBUTES = "count index title find get join lower upper split strip copy add".split()


def bound_names(tree):
    """Pairs of a line and a name that is bound: variables, parameters, functions, classes, caught errors."""
    for node in ast.walk(tree):
        if isinstance(node, ast.Name) and isinstance(node.ctx, (ast.Store, ast.Del)):
            yield node.lineno, node.id
        elif isinstance(node, ast.arg):
            yield node.lineno, node.arg
        elif isinstance(node, (ast.FunctionDef, ast.ClassDef)):
            yield node.lineno, node.name
        elif isinstance(node, ast.ExceptHandler) and node.name:
            yield node.lineno, node.name


def names(package, module):
    """L12, L17: plain names, and those that are not used."""
    every = list(bound_names(module.tree))
    every += [(node.lineno, node.attr) for node in ast.walk(module.tree) if isinstance(node, ast.Attribute)]
    every += [(node.value.lineno, node.arg) for node in ast.walk(module.tree)
              if isinstance(node, ast.keyword) and node.arg]
    for line, name in every:
        if name.startswith("__") and name.endswith("__"):
            continue
        if not re.fullmatch(r"_?[A-Za-z][A-Za-z0-9_]*|_", name) or ENDED.match(name):
            yield "L12", line, f"the name {name}"
        if any(name.startswith(prefix) for prefix in PREFIXES):
            yield "L12", line, f"the name {name}"
        if name in NOWHERE or FRAMES.match(name):
            yield "L17", line, f"the name {name}"
    for node in ast.walk(module.tree):
        if isinstance(node, ast.Name) and isinstance(node.ctx, ast.Load) and node.id == "_":
            yield "L12", node.lineno, "_ is read"


def is_method(node):
    return isinstance(node, ast.FunctionDef) and isinstance(getattr(node, "above", None), ast.ClassDef)


def variables(package, module):
    """L8, L15, L17: names of variables, functions and parameters."""
    methods = {(node.lineno, node.name) for node in module.functions if is_method(node)}
    for line, name in bound_names(module.tree):
        if name in NO_VARIABLES:
            yield "L17", line, f"the name {name}"
        if name in dir(builtins) and ((line, name) not in methods or name in ALLOWED):
            yield "L15", line, f"{name} is the name of a builtin"
        if name.startswith("__") and (line, name) not in methods:
            yield "L8", line, f"{name} begins with two underscores"
    taken = set(module.imported) | {node.name for node in module.classes}
    for function in module.functions:
        for line, name in bound_names(function):
            if name in taken and name != function.name:
                yield "L15", line, f"{name} is the name of a class or an import of the file"


SCOPES = (ast.FunctionDef, ast.Lambda, ast.ListComp, ast.DictComp, ast.SetComp, ast.GeneratorExp)


def read_names(package, module):
    """L8: each name that is read is an own one, or one of the builtins that are let."""
    for node in ast.walk(module.tree):
        if not isinstance(node, ast.Name) or not isinstance(node.ctx, ast.Load):
            continue
        known = set(module.imported) | set(module.defined)
        above = node
        while hasattr(above, "above"):
            above = above.above
            if isinstance(above, SCOPES):
                known |= {name for _, name in bound_names(above)}
        setter = isinstance(getattr(node, "above", None), ast.Attribute) and node.above.attr == "setter"
        main = module.path.stem == "__main__" and node.id in ("print", "sys", "__name__")
        if node.id not in known and node.id not in ALLOWED and not setter and not main:
            yield "L8", node.lineno, f"the name {node.id}"


def members(package, module):
    """L18, L26: names of own methods and attributes, and that each attribute that is read is there."""
    kinds = {name for kind in BUILTIN_KINDS for name in dir(kind)}
    for node in module.classes:
        for method in node.body:
            if isinstance(method, ast.FunctionDef) and not method.name.startswith("__"):
                if method.name in kinds and method.name not in FREE_METHODS:
                    yield "L26", method.lineno, f"the method {method.name}"
    for node in ast.walk(module.tree):
        if not isinstance(node, ast.Attribute):
            continue
        if isinstance(node.ctx, ast.Store):
            if node.attr in kinds and node.attr not in FREE_ATTRIBUTES:
                yield "L26", node.lineno, f"the attribute {node.attr}"
            if not isinstance(node.value, ast.Name) or node.value.id in package.classes:
                yield "L18", node.lineno, "an attribute that is not assigned through a local name"
        elif not is_called(node) and node.attr not in package.attributes | package.values | set(package.methods) | SPECIAL \
                and module.path.stem != "__main__":
            yield "L18", node.lineno, f"no class assigns the attribute {node.attr}"


SPECIAL = {"setter", "__class__", "__name__"}


def is_called(node):
    return isinstance(node.above, ast.Call) and node.above.func is node


RULES = [names, variables, read_names, members]

"""L6, L7, L19, L20, L22, L23, L24, L25: statements, expressions, calls and methods of builtin values."""

import ast

from rules_classes import is_call
from rules_names import FREE_METHODS

STATEMENTS = """FunctionDef ClassDef Return Assign AnnAssign AugAssign For While If Raise Try Pass Break Continue Expr
ImportFrom Import Assert Delete Nonlocal Match With""".split()
EXPRESSIONS = """BoolOp BinOp UnaryOp IfExp Dict ListComp DictComp Compare Call JoinedStr FormattedValue Constant Attribute
Subscript Starred Name List Tuple Slice Lambda GeneratorExp NamedExpr Set SetComp Yield YieldFrom""".split()
METHODS = FREE_METHODS + """title capitalize swapcase casefold center expandtabs removeprefix removesuffix rindex isascii
isdecimal isnumeric istitle isidentifier isprintable""".split()
LAZY = ("zip", "enumerate", "reversed", "range")
AT_ONCE = ("list", "tuple", "dict", "sorted", "sum", "any", "all", "enumerate", "zip", "min", "max")
KEYWORDS = {"sorted": {"key", "reverse"}, "min": {"key", "default"}, "max": {"key", "default"}, "sum": {"start"},
            "enumerate": {"start"}, "zip": {"strict"}}
# As text, since 1 is equal to True.
PLAIN_SIDES = ("None", "True", "False")
TO_CATCH = ("KeyError", "ZeroDivisionError")
CALLED_ONLY = LAZY + AT_ONCE + ("len", "isinstance", "repr", "ord", "divmod", "iter", "abs", "int", "str", "bool", "set")


def nodes(package, module):
    """L6, L7: statements and expressions that the package uses, and no others."""
    for node in ast.walk(module.tree):
        name = node.__class__.__name__
        if isinstance(node, ast.stmt) and name not in STATEMENTS:
            yield "L6", node.lineno, f"a statement {name}"
        if isinstance(node, ast.expr) and name not in EXPRESSIONS:
            yield "L6" if name == "Await" else "L7", node.lineno, f"an expression {name}"
        if isinstance(node, ast.Constant) and not isinstance(node.value, (int, str, bytes, type(None), type(...))):
            yield "L7", node.lineno, "a value that is no integer, string, bytes, True, False or None"
        if isinstance(node, (ast.Yield, ast.YieldFrom)) and not isinstance(node.above, ast.Expr):
            yield "L23", node.lineno, "a yield that is no statement"
        if isinstance(node, ast.NamedExpr) and not stands_in_test(node):
            yield "L7", node.lineno, ":= outside of a test"
        if isinstance(node, ast.Expr) and not isinstance(node.value, (ast.Call, ast.Constant, ast.Yield, ast.YieldFrom)):
            yield "L6", node.lineno, "a statement that is an expression"
        if isinstance(node, (ast.BinOp, ast.AugAssign)):
            yield from signs(node)
        if isinstance(node, (ast.ListComp, ast.DictComp, ast.SetComp, ast.GeneratorExp)) and is_at_top(node):
            yield "L7", node.lineno, "a comprehension outside of functions"
        if isinstance(node, ast.GeneratorExp) and not takes_generators(node):
            yield "L7", node.lineno, "a generator expression in another place than list, tuple, dict or a join"
        if isinstance(node, (ast.Set, ast.SetComp)) or is_call(node, "set"):
            if not may_be_set(node):
                yield "L24", node.lineno, "a set in a place of its own"


def stands_in_test(node):
    while not isinstance(node, ast.stmt):
        if isinstance(node, ast.comprehension):
            return True
        node, below = node.above, node
    return isinstance(node, (ast.If, ast.While)) and node.test is below


def takes_generators(node):
    """Classes of the package have __eq__ and operators, so any, all, sum, min, max and sorted take a list."""
    above = node.above
    join = isinstance(above, ast.Call) and isinstance(above.func, ast.Attribute) and above.func.attr == "join"
    return join or any(is_call(above, name) for name in ("list", "tuple", "dict"))


def may_be_set(node):
    above = node.above
    if isinstance(above, ast.BinOp):
        return may_be_set(above)
    if isinstance(above, ast.Compare):
        return all(isinstance(sign, (ast.In, ast.NotIn, ast.Eq, ast.NotEq)) for sign in above.ops)
    return is_call(above, "sorted") or is_call(above, "len") or is_call(above, "set") or (
        isinstance(above, ast.Assign) and isinstance(above.targets[0], ast.Name) and not is_at_top(node))


def is_at_top(node):
    while hasattr(node, "above"):
        node = node.above
        if isinstance(node, (ast.FunctionDef, ast.Lambda)):
            return False
    return True


def signs(node):
    if isinstance(node.op, (ast.Div, ast.MatMult)):
        yield "L7", node.lineno, "a sign / or @"
    if isinstance(node.op, ast.Pow):
        power = node.right if isinstance(node, ast.BinOp) else node.value
        if not (isinstance(power, ast.Constant) and isinstance(power.value, int) and 0 <= power.value <= 64):
            yield "L27", node.lineno, "a power that is no literal from 0 to 64"


def errors(package, module):
    """L19: own errors are raised on the spot and caught by name."""
    for node in ast.walk(module.tree):
        if isinstance(node, ast.ExceptHandler):
            kinds = node.type.elts if isinstance(node.type, ast.Tuple) else [node.type]
            for kind in kinds:
                if not isinstance(kind, ast.Name) or kind.id not in package.errors | set(TO_CATCH):
                    yield "L19", node.lineno, "an error that is caught"
        if isinstance(node, ast.Try):
            for part in [part for row in node.finalbody for part in ast.walk(row)]:
                if not isinstance(part, LET_IN_FINALLY):
                    yield "L6", node.lineno, "a finally that does more than L6 lets"
        if isinstance(node, ast.Raise) and node.exc is not None:
            made = node.exc
            if not isinstance(made, ast.Call) or not isinstance(made.func, ast.Name) \
                    or made.func.id not in package.errors | {"TypeError", "ValueError", "KeyError"}:
                yield "L19", node.lineno, "an error that is not created on the spot"


LET_IN_FINALLY = (ast.Pass, ast.Assign, ast.AugAssign, ast.Expr, ast.Call, ast.If, ast.Name, ast.Attribute, ast.Constant,
                  ast.List, ast.Tuple, ast.BinOp, ast.BoolOp, ast.UnaryOp, ast.Not, ast.Add, ast.Sub, ast.Compare,
                  ast.cmpop, ast.boolop, ast.expr_context)


def comparing(package, module):
    """L20: is stands beside None, True and False."""
    for node in ast.walk(module.tree):
        if isinstance(node, ast.Compare) and any(isinstance(op, (ast.Is, ast.IsNot)) for op in node.ops):
            sides = [node.left] + node.comparators
            if not any(isinstance(side, ast.Constant) and repr(side.value) in PLAIN_SIDES for side in sides):
                yield "L20", node.lineno, "is between two values"


def calls(package, module):
    """L7, L22, L23: calls of builtins, their keywords, and what is iterated at once."""
    for node in ast.walk(module.tree):
        if isinstance(node, ast.Name) and node.id in CALLED_ONLY and isinstance(node.ctx, ast.Load):
            if not is_used(node):
                yield "L22", node.lineno, f"{node.id} is not called"
        if not isinstance(node, ast.Call):
            continue
        if isinstance(node.func, ast.Name):
            known = KEYWORDS.get(node.func.id)
            told = {keyword.arg for keyword in node.keywords}
            if node.func.id in CALLED_ONLY and not told <= (known or set()):
                yield "L22", node.lineno, f"a keyword of {node.func.id}"
            if node.func.id in LAZY and not at_once(node) and not is_kept(node):
                yield "L23", node.lineno, f"{node.func.id} is not iterated at once"
        if isinstance(node.func, ast.Attribute):
            yield from called_method(package, node)
        if isinstance(node.func, ast.Constant):
            yield "L7", node.lineno, "a literal is called"
        starred = [part.value for part in node.args if isinstance(part, ast.Starred)]
        if not all(is_plainly_starred(value) for value in starred):
            yield "L7", node.lineno, "a star over something that is no name, attribute, list or tuple"


def is_plainly_starred(value):
    """Whether a value may stand behind a star: a name, an attribute of a name, a literal, a list or tuple of these."""
    if isinstance(value, ast.Attribute):
        return isinstance(value.value, ast.Name)
    if isinstance(value, (ast.List, ast.Tuple)):
        return all(is_plainly_starred(part) for part in value.elts)
    return isinstance(value, (ast.Name, ast.Constant))


def is_kept(node):
    """Whether a range, zip or view is kept in a plain local variable, as L23 lets."""
    return isinstance(node.above, ast.Assign) and isinstance(node.above.targets[0], ast.Name) and not is_at_top(node)


def is_used(node):
    """A builtin is called, stands in isinstance, or is a key."""
    above = node.above
    if is_annotating(node):
        return True
    if isinstance(above, ast.Call):
        other = is_call(above, "isinstance") and above.args[0] is not node or is_call(above, "map") and above.args[0] is node
        return above.func is node or other
    if isinstance(above, ast.Tuple):
        return is_call(above.above, "isinstance")
    return isinstance(above, ast.keyword) and above.arg == "key" and node.id in ("len", "int", "str", "abs", "sum", "tuple")


def is_annotating(node):
    while isinstance(node.above, (ast.Subscript, ast.Tuple, ast.BinOp)):
        node = node.above
    above = node.above
    return node in (getattr(above, "annotation", None), getattr(above, "returns", None))


def at_once(node):
    above = node.above
    if isinstance(above, (ast.For, ast.comprehension)):
        return above.iter is node
    if isinstance(above, ast.YieldFrom):
        return True
    if isinstance(above, ast.Call):
        if is_call(above, "len") or is_call(above, "reversed"):
            return node.func.id == "range"
        return any(is_call(above, name) for name in AT_ONCE) and above.args[0] is node
    return isinstance(above, ast.Compare) and node.func.id == "range"


def called_method(package, node):
    """L25: a method that is called is one of builtin values, or an own one; no keywords with the first."""
    name = node.func.attr
    if name == "sort":
        yield "L25", node.lineno, "sort where a class has __eq__ or __len__"
    elif name not in METHODS and name not in package.methods and name != "__init__":
        yield "L25", node.lineno, f"the method {name}"
    elif name in METHODS and node.keywords:
        yield "L25", node.lineno, f"a keyword of {name}"
    if name in ("items", "keys", "values") and not (node.args or node.keywords):
        if not at_once_view(node) and not is_kept(node):
            yield "L23", node.lineno, f"{name} is not iterated at once"


def at_once_view(node):
    above = node.above
    if isinstance(above, (ast.For, ast.comprehension)):
        return above.iter is node
    if isinstance(above, ast.Compare):
        return node.func.attr == "keys"
    names = AT_ONCE + ("len",)
    return isinstance(above, ast.Call) and any(is_call(above, name) for name in names) and above.args[0] is node


def loops(package, module):
    """L23: what a loop iterates over is not changed in it."""
    for node in ast.walk(module.tree):
        if not isinstance(node, ast.For):
            continue
        names = {part.id for part in ast.walk(node.iter) if isinstance(part, ast.Name)}
        for part in [part for row in node.body for part in ast.walk(row)]:
            changed = None
            if isinstance(part, ast.Call) and isinstance(part.func, ast.Attribute) \
                    and part.func.attr in ("append", "extend", "insert", "pop", "remove", "clear", "update"):
                changed = part.func.value
            if isinstance(part, ast.Subscript) and isinstance(part.ctx, ast.Store):
                changed = part.value
            if isinstance(changed, ast.Name) and changed.id in names:
                yield "L23", part.lineno, f"{changed.id} is changed in a loop over it"


RULES = [nodes, errors, comparing, calls, loops]

"""L4, L5, L18, L28: functions, classes, methods and operators."""

import ast

SIGNS = "lt le gt ge ne add sub mul floordiv mod pow and or xor lshift rshift".split()
TWO = {f"__{sign}__" for sign in SIGNS} | {f"__r{sign}__" for sign in SIGNS[5:] if sign != "pow"}
INPLACE = {f"__i{sign}__" for sign in SIGNS[5:]}
ONE = {"__neg__", "__pos__", "__invert__", "__abs__", "__bool__"}
PLAIN = {"__init__", "__eq__", "__repr__", "__str__", "__len__", "__enter__", "__exit__", "__call__", "__iter__"}
PARAMETERS = {"__contains__": ["self", "x"], "__getitem__": ["self", "at"], "__setitem__": ["self", "at", "worth"],
              "__eq__": ["self", "other"], "__len__": ["self"], "__str__": ["self"], "__repr__": ["self"],
              "__iter__": ["self"], **{name: ["self", "other"] for name in TWO | INPLACE},
              **{name: ["self"] for name in ONE}}
DECORATORS = ("property", "staticmethod", "classmethod")


def functions(package, module):
    """L4: decorators, parameters, default values; L21: annotations."""
    for node in ast.walk(module.tree):
        if isinstance(node, ast.FunctionDef):
            for decorator in node.decorator_list:
                if not is_let(node, decorator):
                    yield "L4", node.lineno, "a decorator"
        if isinstance(node, ast.AnnAssign) and node.value is None:
            yield "L21", node.lineno, "an annotation without a value"
        for told in (getattr(node, "annotation", None), getattr(node, "returns", None)):
            if told is not None and not is_annotation(package, told):
                yield "L21", told.lineno, "an annotation"
        if isinstance(node, ast.arguments):
            for value in node.defaults + [value for value in node.kw_defaults if value is not None]:
                if not all(isinstance(part, LET_IN_DEFAULTS) for part in ast.walk(value)):
                    yield "L4", value.lineno, "a default value that is not plain"


LET_IN_DEFAULTS = (ast.Constant, ast.Tuple, ast.UnaryOp, ast.USub, ast.Load, ast.BinOp, ast.operator, ast.Name)


def is_annotation(package, told):
    """Whether an annotation has names of L21, own classes, indexes, and | alone."""
    let = {"int", "str", "bool", "list", "tuple", "dict", "set", "object", "bytes"} | set(package.classes)
    for part in ast.walk(told):
        if isinstance(part, ast.Name) and part.id not in let:
            return False
        if not isinstance(part, (ast.Name, ast.Constant, ast.Subscript, ast.Tuple, ast.BinOp, ast.BitOr, ast.Load)):
            return False
    return True


def is_let(node, decorator):
    if not isinstance(getattr(node, "above", None), ast.ClassDef) or len(node.decorator_list) != 1:
        return False
    if isinstance(decorator, ast.Name):
        return decorator.id in DECORATORS
    return isinstance(decorator, ast.Attribute) and decorator.attr == "setter" \
        and isinstance(decorator.value, ast.Name) and decorator.value.id == node.name


def bodies(package, module):
    """L5, L15, L18: what stands in a class, and where classes stand."""
    for node in ast.walk(module.tree):
        if not isinstance(node, ast.ClassDef):
            continue
        if node not in module.tree.body:
            yield "L15", node.lineno, "a class that is not at module level"
        if node.decorator_list or node.keywords:
            yield "L5", node.lineno, "a decorator or a keyword of a class"
        for base in node.bases:
            if not isinstance(base, ast.Name) or base.id not in list(package.classes) + ["ValueError", "Exception"]:
                yield "L5", node.lineno, "a base class that is no own one and no error class"
        seen = set()
        for k, part in enumerate(node.body):
            if isinstance(part, ast.FunctionDef):
                if part.name in seen and not is_setter(part):
                    yield "L18", part.lineno, f"{part.name} is defined twice"
                seen.add(part.name)
            elif isinstance(part, ast.Assign):
                if node.name in package.errors or not isinstance(part.value, (ast.Constant, ast.UnaryOp, ast.Tuple)):
                    yield "L5", part.lineno, "a class value"
            elif not (k == 0 and isinstance(part, ast.Expr) and isinstance(part.value, ast.Constant)) \
                    and not isinstance(part, ast.Pass):
                yield "L5", part.lineno, "a statement in a class"
        yield from methods_of(package, node)


def is_setter(part):
    return any(isinstance(decorator, ast.Attribute) for decorator in part.decorator_list)


def methods_of(package, node):
    names = {part.name for part in node.body if isinstance(part, ast.FunctionDef)}
    for part in node.body:
        if not isinstance(part, ast.FunctionDef) or not part.name.startswith("__"):
            continue
        error = node.name in package.errors
        known = PLAIN if error else PLAIN | TWO | INPLACE | ONE | set(PARAMETERS)
        if part.name not in known or error and part.name in ("__iter__", "__call__"):
            yield "L5", part.lineno, f"the method {part.name}"
        told = part.args
        wanted = PARAMETERS.get(part.name)
        if wanted and ([arg.arg for arg in told.args] != wanted or told.defaults or told.vararg or told.kwonlyargs
                       or told.kwarg or part.decorator_list):
            yield "L5", part.lineno, f"the parameters of {part.name}"
        yield from returned(part)
    if "__getitem__" in names and "__iter__" not in names:
        yield "L5", node.lineno, "__getitem__ without __iter__"


def returned(part):
    """L28: what double-underscore methods return; L5: __iter__ is one statement."""
    returns = [node for node in ast.walk(part) if isinstance(node, ast.Return)]
    if part.name == "__init__" and any(node.value is not None for node in returns):
        yield "L28", part.lineno, "__init__ returns something"
    if part.name in ("__str__", "__repr__", "__len__") and not isinstance(part.body[-1], ast.Return):
        yield "L28", part.lineno, f"{part.name} does not end with a return"
    for node in returns:
        if part.name == "__len__" and not (is_call(node.value, "len") or isinstance(node.value, ast.Constant)):
            yield "L28", node.lineno, "a return of __len__"
        if part.name in ("__str__", "__repr__") and not is_text(node.value):
            yield "L28", node.lineno, f"a return of {part.name}"
    if part.name == "__iter__":
        rows = [row for row in part.body if not (isinstance(row, ast.Expr) and isinstance(row.value, ast.Constant))]
        if len(rows) != 1 or not gives_rows(rows[0]):
            yield "L5", part.lineno, "__iter__ is not one statement over an attribute"


def gives_rows(row):
    """Whether a statement is one of those that L5 lets in __iter__."""
    if isinstance(row, ast.Return) and is_call(row.value, "iter"):
        return isinstance(row.value.args[0], (ast.Attribute, ast.Call))
    if isinstance(row, ast.For):
        return isinstance(row.iter, (ast.Attribute, ast.Call))
    if isinstance(row, ast.Expr) and isinstance(row.value, ast.YieldFrom):
        return isinstance(row.value.value, (ast.Attribute, ast.Call))
    return isinstance(row, ast.Raise)


def is_call(node, name):
    return isinstance(node, ast.Call) and isinstance(node.func, ast.Name) and node.func.id == name


def is_text(node):
    if isinstance(node, ast.Constant):
        return isinstance(node.value, str)
    join = isinstance(node, ast.Call) and isinstance(node.func, ast.Attribute) and node.func.attr == "join" \
        and isinstance(node.func.value, ast.Constant)
    return isinstance(node, ast.JoinedStr) or is_call(node, "str") or is_call(node, "repr") or join


def changes(package, module):
    """L5 Operators: what operators and properties run changes only what it created itself."""
    for function in module.functions:
        if function not in package.pure:
            continue
        created = own_values(function)
        init = function.name == "__init__"
        for node in ast.walk(function):
            if isinstance(node, (ast.Subscript, ast.Attribute)) and isinstance(node.ctx, (ast.Store, ast.Del)):
                local = isinstance(node.value, ast.Name) and (node.value.id in created or init and node.value.id == "self")
                if not local:
                    yield "L5", node.lineno, "a change of what the function did not create"
            if isinstance(node, ast.AugAssign) and not (isinstance(node.value, ast.Constant)
                                                        and isinstance(node.value.value, int)):
                yield "L5", node.lineno, "a sign with = of something that is no literal integer"
            if isinstance(node, ast.Call) and isinstance(node.func, ast.Attribute) and node.func.attr in CHANGING:
                if not isinstance(node.func.value, ast.Name) or node.func.value.id not in created:
                    yield "L5", node.lineno, f"{node.func.attr} of what the function did not create"


CHANGING = "append clear extend insert pop remove reverse setdefault update add discard sort".split()


def own_values(function):
    """The names that a function assigns only lists and dicts of its own."""
    found, other = set(), set()
    for node in ast.walk(function):
        if isinstance(node, ast.Assign):
            for target in node.targets:
                if isinstance(target, ast.Name):
                    (found if is_created(node.value) else other).add(target.id)
    return found - other


def is_created(value):
    return isinstance(value, (ast.List, ast.Dict, ast.ListComp)) or any(is_call(value, k) for k in ("list", "dict", "sorted"))


def use_of_classes(package, module):
    """L18: a class is called, a base class, in isinstance, except or raise, or asked for a class method."""
    for node in ast.walk(module.tree):
        if not isinstance(node, ast.Name) or not isinstance(node.ctx, ast.Load) or node.id not in package.classes:
            continue
        above = node.above
        if isinstance(above, ast.Call) and (above.func is node or is_call(above, "isinstance") and above.args[0] is not node):
            continue
        if isinstance(above, (ast.ClassDef, ast.ExceptHandler, ast.Raise, ast.Attribute)):
            continue
        if isinstance(above, ast.Tuple) and isinstance(above.above, (ast.ExceptHandler, ast.Call)):
            continue
        yield "L18", node.lineno, f"a use of the class {node.id}"


RULES = [functions, bodies, changes, use_of_classes]

"""L2, L3, L15, L16: imports, the module level, and what stands there."""

import ast

LIBRARY = {"heapq": ("heappush", "heappop", "heapify", "heapreplace", "heappushpop"),
           "math": ("gcd", "lcm", "isqrt", "comb", "perm", "factorial")}


def imports(package, module):
    """L2, L16: from files of the package, by the very file that defines the name; no products with a sized object."""
    names = {other.name: other for other in package.modules}
    started = False
    for node in module.tree.body:
        if isinstance(node, ast.ImportFrom):
            if started:
                yield "L2", node.lineno, "an import behind other statements"
            yield from one_import(names, node)
        elif not (isinstance(node, ast.Expr) and isinstance(node.value, ast.Constant)):
            started = True
    for node in ast.walk(module.tree):
        main = module.path.stem == "__main__" and [alias.name for alias in getattr(node, "names", [])] == ["sys"]
        if isinstance(node, ast.Import) and not main:
            yield "L2", node.lineno, "an import that is no from .. import"
        if isinstance(node, ast.ImportFrom) and node not in module.tree.body:
            yield "L2", node.lineno, "an import in a function or a class"


def one_import(names, node):
    if node.level or any(alias.name == "*" or alias.asname for alias in node.names):
        yield "L2", node.lineno, "an import with a dot, a star or another name"
    elif node.module in LIBRARY:
        for alias in node.names:
            if alias.name not in LIBRARY[node.module]:
                yield "L2", node.lineno, f"{alias.name} of the library"
    elif node.module not in names or node.module.endswith("__main__"):
        yield "L2", node.lineno, f"an import from {node.module}"
    else:
        for alias in node.names:
            if alias.name not in names[node.module].defined:
                yield "L16", node.lineno, f"{alias.name} is not defined in {node.module}"


def package_cycles(package):
    """L16: no two files import from each other, neither directly nor through other files."""
    edges = {module.name: {node.module for node in module.tree.body if isinstance(node, ast.ImportFrom)}
             | ({package.name} if module.name != package.name else set()) for module in package.modules}
    for name in edges:
        reached, late = set(), [name]
        while late:
            for other in edges.get(late.pop(), ()):
                if other not in reached:
                    reached.add(other)
                    late.append(other)
        if name in reached:
            yield "L16", name, 0, "it imports from itself through other files"


def module_level(package, module):
    """L3, L15: only docstrings, imports, functions, classes, plain values; each name bound once."""
    bound = list(module.imported)
    for k, node in enumerate(module.tree.body):
        if isinstance(node, ast.ImportFrom) or module.path.stem == "__main__" and isinstance(node, (ast.Import, ast.If)):
            continue
        if isinstance(node, (ast.FunctionDef, ast.ClassDef)):
            bound.append(node.name)
        elif isinstance(node, ast.Assign):
            if len(node.targets) != 1 or not isinstance(node.targets[0], ast.Name):
                yield "L3", node.lineno, "a statement with several targets"
            else:
                bound.append(node.targets[0].id)
            if not is_plain(node.value):
                yield "L3", node.lineno, "a value that is not plain"
        elif not (k == 0 and isinstance(node, ast.Expr) and isinstance(node.value, ast.Constant)):
            yield "L3", node.lineno, "a statement that cannot stand at module level"
    for name in sorted(set(bound)):
        if bound.count(name) > 1:
            yield "L15", 0, f"{name} is bound more than once"


def is_plain(node):
    """Integers, strings, True, False, None, tuples, and lists and dicts without lists and dicts in them."""
    if isinstance(node, (ast.List, ast.Dict)):
        inner = node.elts if isinstance(node, ast.List) else node.keys + node.values
        return all(is_plain_value(part) or isinstance(part, ast.Name) for part in inner)
    return is_plain_value(node)


def is_plain_value(node):
    if isinstance(node, ast.Tuple):
        return all(is_plain_value(part) for part in node.elts)
    if isinstance(node, ast.UnaryOp):
        return isinstance(node.op, ast.USub) and is_plain_value(node.operand)
    return isinstance(node, ast.Constant) and isinstance(node.value, (int, str, bool, type(None)))


RULES = [imports, package_cycles, module_level]

"""Checks the files of the package against the rules of LANGUAGE.md, as far as a script can see them.

It sees less than the rules say: what it lets may still break one. The rules that hang on what the classes of the package
have (operators, __eq__, objects that are iterated over) are asked as they are for a package that has all of these.
Use: python3 language.py FOLDER; it prints a line for each fault and ends with 1 if there is one.
"""

import ast
import pathlib
import sys

import rules_classes
import rules_imports
import rules_names
import rules_text
import rules_tree

RULES = rules_text.RULES + rules_imports.RULES + rules_names.RULES + rules_classes.RULES + rules_tree.RULES


class Module:
    """One file of the package: its name, its text, its tree, and what it defines."""

    def __init__(self, path, package):
        self.path = path
        self.name = package if path.stem == "__init__" else f"{package}.{path.stem}"
        self.source = path.read_text(encoding="utf-8", errors="replace")
        self.tree = ast.parse(self.source)
        for node in ast.walk(self.tree):
            for child in ast.iter_child_nodes(node):
                child.above = node
        self.functions = [node for node in ast.walk(self.tree) if isinstance(node, ast.FunctionDef)]
        self.classes = [node for node in self.tree.body if isinstance(node, ast.ClassDef)]
        self.imported = {}
        self.defined = {}
        for node in self.tree.body:
            if isinstance(node, ast.ImportFrom):
                self.imported.update({alias.asname or alias.name: node for alias in node.names})
            elif isinstance(node, (ast.FunctionDef, ast.ClassDef)):
                self.defined[node.name] = node
            elif isinstance(node, ast.Assign):
                self.defined.update({name.id: node for name in node.targets if isinstance(name, ast.Name)})


class Package:
    """All files of the package, and what they hold together."""

    def __init__(self, folder):
        self.folder = pathlib.Path(folder)
        self.name = self.folder.name
        self.modules = [Module(path, self.name) for path in sorted(self.folder.glob("*.py"))]
        self.classes = {node.name: node for module in self.modules for node in module.classes}
        self.methods = {}
        self.attributes = set()
        self.values = set()
        for node in self.classes.values():
            for method in node.body:
                if isinstance(method, ast.FunctionDef):
                    self.methods.setdefault(method.name, []).append(method)
            self.values.update(part.targets[0].id for part in node.body if isinstance(part, ast.Assign))
            for part in ast.walk(node):
                if isinstance(part, ast.Attribute) and isinstance(part.ctx, ast.Store):
                    self.attributes.add(part.attr)
        bases = {name: [base.id for base in node.bases if isinstance(base, ast.Name)]
                 for name, node in self.classes.items()}
        self.errors = {name for name in bases if self.is_error(name, bases)}
        self.pure = pure_functions(self)

    def is_error(self, name, bases):
        return name in ("ValueError", "Exception") or any(self.is_error(base, bases) for base in bases.get(name, []))


QUIET = ["__eq__", "__str__", "__repr__", "__len__", "__contains__", "__getitem__", "__bool__"]


def is_quiet(method):
    """Whether a method changes nothing, by L5: operators but those in place, properties, and some others."""
    signs = rules_classes.TWO | rules_classes.ONE | set(QUIET)
    return method.name in signs or any(isinstance(word, ast.Name) and word.id == "property"
                                       for word in method.decorator_list)


def pure_functions(package):
    """The nodes of all functions that change nothing, and of all that these call, by the names that they call."""
    named = {}
    for module in package.modules:
        for function in module.functions:
            named.setdefault(function.name, []).append(function)
    late = [method for methods in package.methods.values() for method in methods if is_quiet(method)]
    found = set(late)
    while late:
        for node in ast.walk(late.pop()):
            if isinstance(node, ast.Call):
                word = getattr(node.func, "id", None) or getattr(node.func, "attr", None)
                for function in named.get(word, []):
                    if function not in found:
                        found.add(function)
                        late.append(function)
    return found


def faults_of(folder):
    """The list of the faults (rule, file, line, what) of a package."""
    package = Package(folder)
    found = []
    for rule in RULES:
        if rule.__name__.startswith("package_"):
            found.extend(rule(package))
            continue
        for module in package.modules:
            found.extend((name, module.path.name, line, what) for name, line, what in rule(package, module))
    return sorted(set(found), key=str)


def main(folder):
    found = faults_of(folder)
    for name, file, line, what in found:
        print(f"{name} {file}:{line}: {what}")
    print(f"{len(found)} faults against the rules of the language")
    return 1 if found else 0


if __name__ == "__main__":
    sys.exit(main(sys.argv[1]))

"""Runs the examples of the document, which stand in files beside this one."""

import ast
import pathlib

FOLDER = pathlib.Path(__file__).parent / "examples"


def examples_in(name):
    """The pairs of a source line and the line that stands below it, or None, of one file."""
    lines = (FOLDER / name).read_text().split("\n")
    found = []
    for k, line in enumerate(lines):
        if line.startswith(">>> "):
            below = lines[k + 1] if k + 1 < len(lines) else ""
            found.append((line[4:], None if below == "" or below.startswith(">>> ") else below))
    return found


def is_expression(source):
    try:
        ast.parse(source, mode="eval")
    except SyntaxError:
        return False
    return True


def shown(source, names):
    """What an example shows: the repr of its value, or the error with its fields; None for a statement."""
    if not is_expression(source):
        exec(source, names)
        return None
    try:
        return repr(eval(source, names))
    except ValueError as error:
        fields = ", ".join(f"{name}={value!r}" for name, value in vars(error).items())
        return f"raises {error.__class__.__name__}({fields})"

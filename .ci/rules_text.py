"""L1, L10, L14, L27: files, sizes, characters, strings; L12 and L17: words that stand nowhere."""

import ast
import builtins
import io
import re
import sys
import tokenize

LAST_LINE, LAST_LENGTH, LAST_FUNCTION = 399, 120, 40
WORDS = """type typing typing_extensions enum Enum IntEnum StrEnum Flag IntFlag Generic Protocol ABC ABCMeta namedtuple
NamedTuple TypedDict TYPE_CHECKING abstractmethod""".split()
FRAMES = re.compile(r"^(f_back|f_code|f_locals|f_globals|f_lineno|f_builtins|f_lasti|f_trace|tb_\w+|co_\w+|gi_\w+|cr_\w+)$")
FILES = "test tests testing site conftest sitecustomize usercustomize heapq math itertools".split()


def package_files(package):
    """L1, L14: the folder holds .py files with plain names, and nothing else."""
    for path in sorted(package.folder.iterdir()):
        if path.name == "__pycache__":
            continue
        if path.suffix != ".py" or not path.is_file() or not re.fullmatch(r"[a-z_][a-z0-9_]*", path.stem):
            yield "L1", path.name, 0, "not a file of the package with a plain, lower-case name"
        if path.stem in FILES or path.stem.startswith(("law_", "test_")) or path.stem in dir(builtins):
            yield "L14", path.name, 0, "no file is called so"
    if len(package.modules) > 100:
        yield "L14", ".", 0, "more than 100 files"
    if not (package.folder / "__init__.py").is_file():
        yield "L14", ".", 0, "no __init__.py"
    if package.name in sys.stdlib_module_names:
        yield "L14", ".", 0, "the package has the name of a module of the standard library"


def sizes(package, module):
    """L10, L14: lines, files, functions, characters."""
    lines = module.source.split("\n")
    if len(lines) - 1 > LAST_LINE:
        yield "L10", len(lines) - 1, "the file has too many lines"
    for number, line in enumerate(lines, 1):
        if len(line) > LAST_LENGTH:
            yield "L10", number, "the line is too long"
        if not all(" " <= sign <= "~" for sign in line):
            yield "L14", number, "a character that is none from the space to ~"
    for function in module.functions:
        if function.end_lineno - function.lineno + 1 > LAST_FUNCTION:
            yield "L10", function.lineno, f"{function.name} has too many lines"


def words(package, module):
    """L12, L17: words that stand in no file, L17: not in code and strings."""
    for number, line in enumerate(module.source.split("\n"), 1):
        if re.search(r"\b(_wall|_WallAttr)\b", line):
            yield "L12", number, "a word that stands nowhere"
        if re.search(r"\(type\)|Meta|metaclass=", line):
            yield "L17", number, "text that stands nowhere where a class has __getitem__"
    for token in tokenize.generate_tokens(io.StringIO(module.source).readline):
        if token.type == tokenize.COMMENT or is_docstring(module, token):
            continue
        for word in re.findall(r"\w+", token.string):
            if word in WORDS or re.search("dataclass|overload|contextmanager", word):
                yield "L17", token.start[0], f"the word {word}"


def is_docstring(module, token):
    return token.type == tokenize.STRING and token.start in {(node.lineno, node.col_offset) for node in docs(module)}


def docs(module):
    """The nodes of all docstrings."""
    for node in ast.walk(module.tree):
        if isinstance(node, (ast.Module, ast.ClassDef, ast.FunctionDef)) and ast.get_docstring(node) is not None:
            yield node.body[0].value


def strings(package, module):
    """L27: signs and escapes in strings."""
    for token in tokenize.generate_tokens(io.StringIO(module.source).readline):
        if token.type not in (tokenize.STRING, getattr(tokenize, "FSTRING_MIDDLE", tokenize.STRING)):
            continue
        line, text = token.start[0], token.string
        if "%" in text:
            yield "L27", line, "a percent sign in a string"
        if re.search(r"\\[^nt\\\"']", text) and not text.startswith("b"):
            yield "L27", line, "an escape"
        if re.match(r"(?i)[a-z]?[ru][a-z]?[\"']", text) and token.type == tokenize.STRING:
            yield "L27", line, "a prefix of a string other than f and b"
    for node in ast.walk(module.tree):
        if isinstance(node, ast.Constant) and isinstance(node.value, str):
            text = node.value
            if text.endswith(("._", ".__")) or FRAMES.match(text) or re.fullmatch(r"__.*__", text) and text != "__main__":
                yield "L27", node.lineno, "a string that stands nowhere"
            if ("{" in text or "." in text and " " not in text) and re.search(r"\b__", text):
                yield "L27", node.lineno, "a word with two underscores in a string"
        if isinstance(node, ast.Constant) and isinstance(node.value, int) and abs(node.value) >= 10**900:
            yield "L27", node.lineno, "a number with too many digits"


RULES = [package_files, sizes, words, strings]

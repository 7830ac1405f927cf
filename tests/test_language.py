"""The package keeps to the rules of the language, and the script that checks this sees what breaks them."""

import pathlib
import sys
import tempfile
import unittest

ROOT = pathlib.Path(__file__).resolve().parent.parent
sys.path.insert(0, str(ROOT / ".ci"))

import language  # noqa: E402

DEF = "def told(x):\n    "
CLASS = "class Box:\n    "
# A function that an operator calls.
QUIET = CLASS + "def __neg__(self):\n        return told(self)\n\n\n" + DEF
# Pairs of a rule and a file that breaks it.
BROKEN = (
    ("L2", "import math\n"),
    ("L2", "from os import path\n"),
    ("L2", "from itertools import product\n"),
    ("L2", "from pack.other import *\n"),
    ("L2", "from .other import one\n"),
    ("L2", "from pack.other import one as two\n"),
    ("L2", "from pack.missing import one\n"),
    ("L2", "X = 1\nfrom pack.other import one\n"),
    ("L2", DEF + "from pack.other import one\n    return one\n"),
    ("L16", "from pack.other import two\n"),
    ("L3", "X, Y = 1, 2\n"),
    ("L3", "X = len('a')\n"),
    ("L3", "X = 1.5\n"),
    ("L3", "if 1:\n    X = 1\n"),
    ("L3", "X = [[1]]\n"),
    ("L4", "def wrap(f):\n    return f\n\n\n@wrap\ndef told(x):\n    return x\n"),
    ("L4", "def told(x=len('a')):\n    return x\n"),
    ("L5", CLASS + "def __hash__(self):\n        return 1\n"),
    ("L5", CLASS + "def __getitem__(self, at):\n        return at\n"),
    ("L5", CLASS + "def __add__(self, late):\n        return late\n"),
    ("L5", CLASS + "for x in (1, 2):\n        pass\n"),
    ("L5", "class Box(int):\n    pass\n"),
    ("L5", "class Box(metaclass=int):\n    pass\n"),
    ("L5", CLASS + "def __iter__(self):\n        return iter([1])\n"),
    ("L5", QUIET + "x.append(1)\n"),
    ("L5", QUIET + "x[0] = 1\n"),
    ("L5", QUIET + "x.rows = 1\n"),
    ("L5", QUIET + "y = [1]\n    y += x\n    return y\n"),
    ("L5", QUIET + "y = {z: 1 for z in x}\n    y[0] = 1\n    return y\n"),
    ("L5", CLASS + "@property\n    def many(self):\n        self.seen = 1\n        return 1\n"),
    ("L6", DEF + "global y\n    return x\n"),
    ("L6", DEF + "try:\n        return x\n    finally:\n        for y in x:\n            y = 1\n"),
    ("L6", DEF + "x == 1\n"),
    ("L6", "async def told(x):\n    return x\n"),
    ("L7", DEF + "return 1.5\n"),
    ("L7", DEF + "return x / 2\n"),
    ("L7", DEF + "return told(*x[0])\n"),
    ("L27", DEF + "return r'a'\n"),
    ("L7", DEF + "return any(y for y in x)\n"),
    ("L7", DEF + "return max((y := x), 1)\n"),
    ("L8", DEF + "return hash(x)\n"),
    ("L8", DEF + "return pow(x, 2)\n"),
    ("L8", DEF + "return filter(None, x)\n"),
    ("L8", DEF + "return unknown\n"),
    ("L8", "__x = 1\n"),
    ("L10", "X = 1\n" * 1 + "# a\n" * 400),
    ("L10", "# " + "a" * 119 + "\n"),
    ("L10", DEF + "return x\n" + "    return x\n" * 40),
    ("L12", DEF + "x__ = 1\n    __y = 2\n    return x\n"),
    ("L12", DEF + "_wall_up = 1\n    return x\n"),
    ("L12", DEF + "_ = 1\n    return _\n"),
    ("L12", DEF + "_record2 = 1\n    return x\n"),
    ("L14", "# \t\n"),
    ("L14", "# \u00e9\n"),
    ("L15", "X = 1\nX = 2\n"),
    ("L15", "from pack.other import one\n\n\n" + DEF + "one = 1\n    return one\n"),
    ("L15", "class Box:\n    pass\n\n\ndef told(Box):\n    return Box\n"),
    ("L15", DEF + "len = 1\n    return x\n"),
    ("L15", "def hash(x):\n    return x\n"),
    ("L15", "def told(id):\n    return id\n"),
    ("L15", DEF + "class Box:\n        pass\n    return x\n"),
    ("L17", DEF + "law = 1\n    return x\n"),
    ("L17", DEF + "return x.elements()\n"),
    ("L17", "def getattr(x):\n    return x\n"),
    ("L17", "X = 'type'\n"),
    ("L17", "# Meta\n"),
    ("L18", DEF + "return x.unknown\n"),
    ("L18", "class Box:\n    pass\n\n\n" + DEF + "return [Box]\n"),
    ("L18", CLASS + "def a(self):\n        return 1\n\n    def a(self):\n        return 2\n"),
    ("L19", DEF + "try:\n        return x\n    except Exception:\n        return 1\n"),
    ("L19", DEF + "try:\n        return x\n    except ValueError:\n        return 1\n"),
    ("L19", DEF + "raise x\n"),
    ("L19", DEF + "raise x.wrong()\n"),
    ("L20", DEF + "return x is 1\n"),
    ("L21", "def told(x: len):\n    return x\n"),
    ("L21", "def told(x) -> 'a'[1:2]:\n    return x\n"),
    ("L21", DEF + "y: int\n    return x\n"),
    ("L22", DEF + "return [len]\n"),
    ("L22", DEF + "return int(x, base=10)\n"),
    ("L23", DEF + "return zip(x, x)\n"),
    ("L23", DEF + "return x.items()\n"),
    ("L23", DEF + "y = yield x\n    return y\n"),
    ("L23", DEF + "y = [1]\n    for z in y:\n        y.append(z)\n"),
    ("L24", DEF + "return {1, x}\n"),
    ("L24", DEF + "return {y for y in x}\n"),
    ("L24", DEF + "return [set(x)]\n"),
    ("L25", DEF + "return x.format(1)\n"),
    ("L25", DEF + "y = [1]\n    y.sort()\n    return y\n"),
    ("L25", DEF + "return x.split(sep=' ')\n"),
    ("L26", CLASS + "def encode(self):\n        return 1\n"),
    ("L26", CLASS + "def __init__(self):\n        self.items = 1\n"),
    ("L27", "X = '%'\n"),
    ("L27", "X = '\\r'\n"),
    ("L27", DEF + "return 2 ** x\n"),
    ("L27", "X = '__odd__'\n"),
    ("L27", "X = '._'\n"),
    ("L28", CLASS + "def __init__(self):\n        return None\n"),
    ("L28", CLASS + "def __len__(self):\n        return told(self)\n\n\n" + DEF + "return 1\n"),
    ("L28", CLASS + "def __str__(self):\n        return told(self)\n\n\n" + DEF + "return 'a'\n"),
)
# Files that keep to the rules.
KEPT = (
    '"""Text: type, 1.5."""\n\nfrom math import gcd\n\nfrom pack.other import one\n\nX = (1, -2, "a", (None, True))\n',
    DEF + "y = []\n    for z in x:\n        y.append(z)\n    return y\n",
    DEF + "return sum([y ** 2 for y, _ in zip(x, x)]) // 2\n",
    "class Bad(ValueError):\n    'A fault.'\n\n\n" + DEF + "try:\n        return x[0]\n    except Bad:\n        raise Bad(1)\n",
    CLASS + "def __init__(self, rows):\n        self.rows = rows\n\n    def __iter__(self):\n        return iter(self.rows)\n\n"
    "    def __getitem__(self, at):\n        return self.rows[at]\n\n    @property\n    def many(self):\n"
    "        return len(self.rows)\n",
    DEF + "return isinstance(x, (int, str)) and sorted(x, key=len)\n",
    DEF + "x.append(1)\n    x[0] = 1\n    del x[0]\n    with x:\n        return b'a'\n",
    "def told(x: list[int], y=3) -> tuple[int, ...]:\n    if (z := y) in {1, y}:\n        return tuple(k for k in x)\n"
    "    seen = set()\n    return len(seen)\n",
    DEF + "for y in x:\n        yield y\n",
    CLASS + "BOTH = (1, 2)\n\n    def many(self):\n        return self.BOTH\n",
)


def faults(source, name="file.py"):
    """The rules that a package with one file of this text breaks."""
    with tempfile.TemporaryDirectory() as folder:
        package = pathlib.Path(folder) / "pack"
        package.mkdir()
        (package / "__init__.py").write_text("")
        (package / "other.py").write_text("def one():\n    return 1\n")
        (package / name).write_text(source, encoding="utf-8")
        return {fault[0] for fault in language.faults_of(package)}


class Language(unittest.TestCase):
    def test_the_package_keeps_to_the_rules(self):
        self.assertEqual(language.faults_of(ROOT / "whoacts"), [])

    def test_what_breaks_a_rule_is_seen(self):
        for rule, source in BROKEN:
            with self.subTest(rule=rule, source=source):
                self.assertIn(rule, faults(source))

    def test_what_keeps_to_the_rules_is_let(self):
        for source in KEPT:
            with self.subTest(source=source):
                self.assertEqual(faults(source), set())

    def test_names_of_files(self):
        self.assertIn("L14", faults("", "test_one.py"))
        self.assertIn("L14", faults("", "filter.py"))
        self.assertIn("L1", faults("", "Upper.py"))
        self.assertIn("L1", faults("", "one.txt"))

    def test_files_that_import_from_each_other(self):
        with tempfile.TemporaryDirectory() as folder:
            package = pathlib.Path(folder) / "pack"
            package.mkdir()
            (package / "__init__.py").write_text("")
            (package / "one.py").write_text("from pack.two import b\n\nA = 1\n\n\ndef a():\n    return b()\n")
            (package / "two.py").write_text("from pack.one import a\n\n\ndef b():\n    return a()\n")
            self.assertIn("L16", {fault[0] for fault in language.faults_of(package)})


if __name__ == "__main__":
    unittest.main()

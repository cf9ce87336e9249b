"""The rules of ../shared/LANGUAGE.md over all of the package's files, and that the check finds what breaks them."""

import pathlib
import unittest

from rules import faults

PACKAGE = pathlib.Path(__file__).resolve().parent.parent / "evenpack"

# Rows that break a rule, each at a file's top or in the def below.
AT_THE_TOP = (
    ("L2", "import sys"), ("L2", "from os import path"), ("L2", "from .a import b"), ("L2", "from evenpack import a"),
    ("L2", "from evenpack.a import *"), ("L2", "x = 1\nfrom evenpack.other import helper"),
    ("L2", "def f():\n    from evenpack.other import helper"), ("L16", "from evenpack.other import missing"),
    ("L16", "from evenpack.missing import helper"), ("L16", "from evenpack.other import helper as h"),
    ("L3", "x = 1 + 2"), ("L3", "x = len('a')"), ("L3", "if True:\n    x = 1"), ("L3", "for i in (1, 2):\n    pass"),
    ("L3", "print(1)"), ("L3", "x = later\ndef later():\n    pass"), ("L4", "def f(*a):\n    pass"),
    ("L4", "def f(**a):\n    pass"), ("L4", "def f(*, a):\n    pass"), ("L4", "@f\ndef g():\n    pass"),
    ("L4", "def f(a, /):\n    pass"), ("L5", "class A:\n    x = 1"), ("L5", "@f\nclass A:\n    pass"),
    ("L5", "class A(list):\n    pass"), ("L6", "async def f():\n    pass"), ("L6", "x = y = 1"),
    ("L10", "def f():\n" + "    pass\n" * 40), ("L10", "# " + "a" * 119), ("L10", "x = 1\n" + "\n" * 400 + "y = 2"),
    ("L11", "def f(n):\n    return f(n)"), ("L11", "def f(n):\n    return g(n)\ndef g(n):\n    return f(n)"),
    ("L12", "_x = 1"), ("L12", "def _f():\n    pass"), ("L12", "def f(_):\n    pass"), ("L14", "# \u00e9"),
    ("L14", "#\ta"), ("L14", "x = 1\r\n"), ("L15", "x = 1\nx = 2"), ("L15", "def f():\n    pass\ndef f():\n    pass"),
    ("L15", "x = [[1]]"), ("L15", "x = {1: [2]}"), ("L15", "x = ({1: 2}, 3)"),
    ("L15", "x = [1]\ndef f():\n    x.append(2)"), ("L15", "x = [1]\ndef f():\n    x[0] = 2"),
    ("L15", "x = [1]\ndef f():\n    return x"), ("L15", "x = [1]\ndef f():\n    return g(x)"),
    ("L15", "class A:\n    pass\ndef f(A):\n    pass"), ("L15", "def f():\n    class A:\n        pass"),
    ("L17", "# a type"), ("L17", "x = 'enum'"), ("L17", "# dataclasses"),
    ("L18", "class A:\n    pass\ndef f():\n    return A"), ("L18", "class A:\n    def f(self):\n        self.f = 1"),
    ("L18", "class A:\n    def f(self):\n        pass\n    def f(self):\n        pass"),
    ("L18", "def f():\n    pass\ndef g():\n    f.x = 1"), ("L21", "x: int = 1"), ("L21", "def f(a: int):\n    pass"),
    ("L21", "def f() -> int:\n    pass"), ("L26", "class A:\n    def encode(self):\n        pass"),
    ("L26", "class A:\n    def f(self):\n        self.items = 1"),
    ("L28", "class A:\n    def __init__(self):\n        return None"),
    ("L28", "class A:\n    def __len__(self):\n        pass"),
    ("L28", "class A:\n    def __add__(self):\n        pass"),
)
IN_A_DEF = (
    ("L4", "def g():\n        pass"), ("L4", "x = lambda: 1"), ("L6", "raise ValueError(n)"),
    ("L6", "try:\n        pass\n    except KeyError:\n        pass"), ("L6", "a, b = n"),
    ("L6", "with n:\n        pass"), ("L6", "match n:\n        case 1:\n            pass"), ("L6", "del n"),
    ("L6", "global x"), ("L6", "assert n"), ("L6", "try:\n        pass\n    finally:\n        pass"), ("L6", "n"),
    ("L6", "while n:\n        pass\n    else:\n        pass"),
    ("L6", "for i in n:\n        pass\n    else:\n        pass"), ("L7", "x = 1.5"), ("L7", "x = n / 2"),
    ("L7", "x = b''"), ("L7", "x = {i for i in n}"), ("L7", "x = {i: 1 for i in n}"), ("L7", "x = sum(i for i in n)"),
    ("L7", "x = [i for i in n for j in n]"), ("L7", "x = [i for i in n if i if n]"), ("L7", "x = [*n]"),
    ("L7", "x = (y := n)"), ("L7", "x = ..."), ("L7", "x = 2j"), ("L7", "x = {1, 2}"), ("L7", "yield n"),
    ("L8", "x = map(n, n)"), ("L8", "x = chr(n)"), ("L8", "print(n)"), ("L8", "x = hash(n)"), ("L8", "x = set(n)"),
    ("L8", "hash = n"), ("L15", "hash = n"), ("L15", "helper = n"), ("L12", "_ = n"), ("L12", "x = n._x"),
    ("L12", "x = n.__class__"), ("L17", "x = open(n)"), ("L17", "x = getattr(n, 'a')"), ("L17", "x = n.register()"),
    ("L17", "x = n.f_back"), ("L17", "x = n.format()"), ("L20", "x = n is 5"), ("L20", "x = n is not y"),
    ("L22", "x = len"), ("L22", "x = g(len)"), ("L22", "x = int(n, base=2)"), ("L22", "x = sorted(n, strict=True)"),
    ("L22", "x = n.split(sep='a')"), ("L23", "x = zip(n, n)"), ("L23", "x = range(3)"), ("L23", "x = n.items()"),
    ("L23", "return enumerate(n)"), ("L23", "for i in n:\n        n.append(i)"),
    ("L23", "for i, j in enumerate(n):\n        n[i] = j"),
    ("L23", "for i in reversed(n.rooms):\n        n.rooms.pop()"), ("L23", "for i, j in n.items():\n        n[i] = j"),
    ("L25", "n.sort()"), ("L25", "x = n.title()"), ("L25", "x = n.append"), ("L25", "x = n.unknown"),
    ("L27", "x = 2 ** n"), ("L27", "x = 2 ** 65"), ("L27", "x = '%'"), ("L27", "x = '\\x41'"),
    ("L27", "x = 1" + "0" * 900),
)
FILES_OUT = (
    ("L1", "Upper.py"), ("L1", "notes.txt"), ("L1", "a-b.py"), ("L14", "test.py"), ("L14", "test_a.py"),
    ("L14", "filter.py"), ("L14", "enum.py"), ("L14", "conftest.py"),
)
OTHER = '"""Other."""\n\n\ndef helper():\n    return 1\n'
ALLOWED = '''"""What the rules allow."""

from evenpack.other import helper

LEAST = -1
NAMES = ("a", "b")
BY_NUMBER = {0: 5, 1: None}


class Kept:
    """A class."""

    def __init__(self, rooms):
        self.rooms = list(rooms)
        self.total = 0

    def first_of(self, found):
        for place, room in enumerate(self.rooms):
            if room == found and self.total is not None:
                return place
        return None


def look_at(n):
    kept = Kept([room ** 2 for room in range(n) if room > 1])
    kept.total += helper() + BY_NUMBER[0]
    while n > 0 and kept.first_of(n) is None:
        n = n - 1 if n in NAMES else 0
    return sorted(kept.rooms, key=len), dict(zip(NAMES, NAMES)), min(range(3)), "".join(NAMES)
'''


def package(text):
    return {"__init__.py": '"""A package."""\n', "other.py": OTHER, "a.py": text}


def rules_broken(sources):
    return {rule for rule, name, line in faults(sources)}


def package_files():
    return sorted(path for path in PACKAGE.rglob("*") if path.name != "__pycache__" and path.suffix != ".pyc")


class ThePackage(unittest.TestCase):
    def test_it_is_one_folder_of_files(self):
        self.assertTrue(all(path.is_file() and path.parent == PACKAGE for path in package_files()), package_files())

    def test_it_keeps_to_the_rules(self):
        # Bytes are read as they are, so that no row's end is made another on the way.
        sources = {path.name: path.read_bytes().decode("utf-8") for path in package_files()}
        self.assertIn("packs.py", sources)
        self.assertEqual(faults(sources), [])


class TheCheck(unittest.TestCase):
    def test_what_is_allowed(self):
        self.assertEqual(faults(package(ALLOWED)), [])

    def test_rows_at_the_top(self):
        for rule, rows in AT_THE_TOP:
            self.assertIn(rule, rules_broken(package(rows + "\n")), rows)

    def test_rows_in_a_def(self):
        def in_a_def(rows):
            return package(f"from evenpack.other import helper\n\n\ndef f(n):\n    {rows}\n")

        self.assertEqual(faults(in_a_def("return helper() + n")), [])
        for rule, rows in IN_A_DEF:
            self.assertIn(rule, rules_broken(in_a_def(rows)), rows)

    def test_files(self):
        for rule, name in FILES_OUT:
            self.assertIn(rule, rules_broken({**package(ALLOWED), name: "x = 1\n"}), name)
        self.assertIn("L14", rules_broken({"a.py": "x = 1\n"}))

    def test_files_in_a_ring(self):
        ring = {"other.py": "from evenpack.a import f\n\n\ndef helper():\n    return f()\n"}
        text = "from evenpack.other import helper\n\n\ndef f():\n    return 1\n\n\ndef g():\n    return helper()\n"
        self.assertNotIn("L16", rules_broken(package(text)))
        self.assertIn("L16", rules_broken({**package(text), **ring}))


if __name__ == "__main__":
    unittest.main()

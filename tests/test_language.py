"""The rules of the language, held against the package, and the reading itself against what breaks them."""

import ast
import unittest
from pathlib import Path

from tests import rules

FOLDER = Path(__file__).resolve().parent.parent / rules.PACKAGE


def within_function(row):
    return "def sample(a, b):\n    " + row + "\n    return a\n"


def sources():
    return {path.name: path.read_text(encoding="utf-8") for path in sorted(FOLDER.glob("*.py"))}


class PackageTest(unittest.TestCase):
    def test_the_folder(self):
        names = [path.name for path in FOLDER.iterdir() if path.name != "__pycache__"]
        self.assertEqual(rules.name_faults(names), [])

    def test_each_file(self):
        for name, source in sources().items():
            with self.subTest(name=name):
                self.assertEqual(rules.file_faults(name, source), [])

    def test_all_files_together(self):
        self.assertEqual(rules.package_faults(sources()), [])

    def test_no_function_calls_itself(self):
        for name, source in sources().items():
            for node in ast.walk(ast.parse(source)):
                if isinstance(node, ast.FunctionDef):
                    called = {getattr(one.func, "id", None) for one in ast.walk(node) if isinstance(one, ast.Call)}
                    self.assertNotIn(node.name, called, name)

    def test_no_carriage_return_and_an_end_to_each_file(self):
        for path in FOLDER.glob("*.py"):
            octets = path.read_bytes()
            self.assertNotIn(b"\r", octets)
            self.assertTrue(octets.endswith(b"\n"))


BROKEN_AT_THE_TOP = (
    ("L2", "import sys\n"),
    ("L2", "from .octets import filled\n"),
    ("L2", "from twoends.octets import *\n"),
    ("L2", "from hashlib import blake2s\n"),
    ("L2", "def sample():\n    from twoends.octets import filled\n    return filled\n"),
    ("L3", "A = 1 + 2\n"),
    ("L3", "A = len('x')\n"),
    ("L3", "if True:\n    pass\n"),
    ("L4", "def sample(*args):\n    return args\n"),
    ("L4", "def sample(**args):\n    return args\n"),
    ("L4", "def sample(*, a):\n    return a\n"),
    ("L4", "def sample(a=len('x')):\n    return a\n"),
    ("L4", "@staticmethod\ndef sample(a):\n    return a\n"),
    ("L5", "class Sample:\n    value = 1\n"),
    ("L5", "class Sample(Exception, ValueError):\n    def go(self):\n        return 1\n"),
    ("L10", "A = 1\n" * 401),
    ("L10", "def sample(a):\n" + "    a = a + 1\n" * 40 + "    return a\n"),
    ("L10", "A = '" + "x" * 120 + "'\n"),
    ("L10", "def sample(a):\n\treturn a\n"),
    ("L12", "def _sample(a):\n    return a\n"),
    ("L14", "A = '\u00e9'\n"),
    ("L15", "A = 1\nA = 2\n"),
    ("L15", "A = [1, 2]\n"),
    ("L15", "def sum(a):\n    return a\n"),
    ("L17", "# what type it is\n"),
    ("L17", "A = 'a dataclasses'\n"),
    ("L18", "class Sample:\n    def go(self):\n        return 1\n    def go(self):\n        return 2\n"),
    ("L18", "class Sample:\n    def go(self):\n        return [Sample]\n"),
    ("L18", "class Sample:\n    def go(self):\n        Sample.value = 1\n"),
    ("L26", "class Sample:\n    def encode(self):\n        return 1\n"),
    ("L26", "class Sample:\n    def __init__(self):\n        self.items = 1\n"),
    ("L27", "A = 'a % b'\n"),
    ("L27", "A = '\\x41'\n"),
    ("L28", "class Sample:\n    def __init__(self):\n        return None\n"),
)
BROKEN_IN_A_FUNCTION = (
    ("L6", "a = b = 1"),
    ("L6", "a, b = b, a"),
    ("L6", "del a"),
    ("L6", "assert a"),
    ("L6", "global c"),
    ("L6", "a == b"),
    ("L6", "'a text alone'"),
    ("L6", "with a: pass"),
    ("L6", "c: int = 1"),
    ("L6", "for c in a:\n        pass\n    else:\n        pass"),
    ("L6", "try:\n        a = 1\n    finally:\n        a = 2"),
    ("L7", "a = b / 2"),
    ("L7", "a = 1.5"),
    ("L7", "a = b'x'"),
    ("L7", "a = [*b]"),
    ("L7", "a = {c: c for c in b}"),
    ("L7", "a = sum(c for c in b)"),
    ("L7", "a = [c for d in b for c in d]"),
    ("L7", "a = [c for c in b if c if a]"),
    ("L7", "a = (c := b)"),
    ("L7", "a = f'{b + 1}'"),
    ("L8", "a = pow(a, b)"),
    ("L8", "a = bytes(b)"),
    ("L8", "a = map(a, b)"),
    ("L8", "a = chr(b)"),
    ("L8", "print(a)"),
    ("L12", "_a = 1"),
    ("L15", "hash = 1"),
    ("L15", "next = 1"),
    ("L17", "a = open(b)"),
    ("L17", "a.open(b)"),
    ("L17", "f_back = 1"),
    ("L17", "id = 1"),
    ("L19", "try:\n        a = 1\n    except Exception:\n        a = 2"),
    ("L19", "try:\n        a = 1\n    except:\n        a = 2"),
    ("L20", "a = a is b"),
    ("L22", "a = len"),
    ("L22", "a = int(b, base=2)"),
    ("L23", "a = range(3)"),
    ("L23", "a = zip(b, range(3))"),
    ("L23", "for c in a:\n        a.append(c)"),
    ("L23", "for c, d in enumerate(a):\n        a[c] = d"),
    ("L24", "a = {1, 2, 3}"),
    ("L24", "a = set(b)"),
    ("L25", "a.sort()"),
    ("L25", "a = b.to_bytes(4)"),
    ("L25", "a = b.append"),
    ("L27", "a = 2 ** b"),
    ("L27", "a = 2 ** 65"),
)
FINE = (
    '"""A docstring."""\n\nfrom twoends.octets import filled\n\nA = 1\nB = -1\nC = (1, (2, "x"), None, True)\n',
    within_function("a[0] = b[1:2] if a is not None else [c for c in b if c]"),
    within_function("for c, d in zip(a, b):\n        c = c ^ d"),
    within_function("a = 2 ** 60 + a * a % 7 // 2"),
    within_function("while a > 0:\n        a -= 1"),
    "class Sample:\n    def __init__(self, own):\n        self.own = own\n",
)


class ReadingTest(unittest.TestCase):
    """A reading that finds nothing anywhere would be no test."""

    def assert_found(self, rule, source):
        with self.subTest(rule=rule, source=source[:60]):
            found = {one for one, line in rules.file_faults("sample.py", source)}
            self.assertIn(rule, found)

    def test_broken_at_the_top(self):
        for rule, source in BROKEN_AT_THE_TOP:
            self.assert_found(rule, source)

    def test_broken_in_a_function(self):
        for rule, row in BROKEN_IN_A_FUNCTION:
            self.assert_found(rule, within_function(row))

    def test_annotations(self):
        self.assert_found("L21", "def sample(a: int):\n    return a\n")
        self.assert_found("L21", "def sample(a) -> int:\n    return a\n")

    def test_fine(self):
        for source in FINE:
            with self.subTest(source=source[:60]):
                self.assertEqual(rules.file_faults("sample.py", source), [])

    def test_names_of_files(self):
        fine = ["__init__.py", "desk.py"]
        self.assertEqual(rules.name_faults(fine), [])
        for rule, name in (
            ("L1", "notes.txt"), ("L1", "a-b.py"), ("L1", "folder"), ("L14", "Desk.py"), ("L14", "test_desk.py"),
            ("L14", "tests.py"), ("L14", "sum.py"), ("L14", "enum.py"), ("L14", "__main__.py"),
        ):
            self.assertEqual(rules.name_faults(fine + [name]), [(rule, name)])
        self.assertEqual(rules.name_faults(["desk.py"]), [("L14", "__init__.py")])

    def test_files_together(self):
        def faults(**texts):
            return {rule for rule, what in rules.package_faults({f"{name}.py": text for name, text in texts.items()})}

        self.assertEqual(faults(one="A = 1\n", two="from twoends.one import A\n"), set())
        self.assertEqual(faults(one="A = 1\n", two="from twoends.one import B\n"), {"L16"})
        self.assertEqual(
            faults(one="from twoends.two import B\nA = 1\n", two="from twoends.one import A\nB = 1\n"), {"L16"})
        self.assertEqual(faults(__init__="from twoends.one import A\n", one="A = 1\n",
                                two="from twoends.one import A\n"), set())
        self.assertEqual(faults(__init__="from twoends.one import A\n", one="from twoends.two import B\nA = B\n",
                                two="B = 1\n"), {"L16"})
        self.assertEqual(faults(__init__="one = 1\n", one="A = 1\n"), {"L16"})
        one = "class One:\n    def go(self):\n        return 1\n"
        two = "class Two:\n    def __init__(self):\n        self.go = 1\n"
        self.assertEqual(faults(one=one, two=two), {"L18"})

"""The package keeps to its part of Python; and the finder of what doesn't finds it."""

import pathlib
import unittest

import pairsevent
from tests.language import check_drawn_classes, check_file, check_folder, check_imports, check_methods_and_values

FOLDER = pathlib.Path(pairsevent.__file__).parent

# What one rule or another sends back, each with the rule's name.
SENT_BACK = [
    ("L3", "print_it = len([1])\n"),
    ("L3", "for k in (1, 2):\n    pass\n"),
    ("L4", "def f(*xs):\n    return xs\n"),
    ("L4", "def f(a, *, b):\n    return a + b\n"),
    ("L4", "def f(a, b=len('x')):\n    return a\n"),
    ("L5", "class A:\n    size = 1\n"),
    ("L6", "def f(a):\n    assert a\n"),
    ("L6", "def f(a):\n    b = c = a\n    return b + c\n"),
    ("L6", "def f(a):\n    for b in a:\n        return b\n    else:\n        return 1\n"),
    ("L6", "def f(a):\n    yield a\n"),
    ("L6", "def f(a):\n    with a:\n        return 1\n"),
    ("L6", "def f(a):\n    a\n"),
    ("L7", "def f(a):\n    return a / 2\n"),
    ("L7", "def f(a):\n    return a * 1.5\n"),
    ("L7", "def f(a):\n    return [x for y in a for x in y]\n"),
    ("L7", "def f(a):\n    return any(x for x in a)\n"),
    ("L7", "def f(a):\n    return {x: 1 for x in a}\n"),
    ("L7", "def f(a):\n    return {1, a}\n"),
    ("L7", "def f(a):\n    return f(*a)\n"),
    ("L8", "def f(a):\n    return set(a)\n"),
    ("L8", "def f(a):\n    return pow(a, 2)\n"),
    ("L10", "def f(a):\n" + "    a = a + 1\n" * 40),
    ("L10", "A = 1\n" * 401),
    ("L10", "A = '" + "x" * 120 + "'\n"),
    ("L12", "def f(_a):\n    return 1\n"),
    ("L14", "A = 1  # \u00e9\n"),
    ("L14", "def f(a):\n\treturn a\n"),
    ("L15", "A = 1\nA = 2\n"),
    ("L15", "A = [[1]]\n"),
    ("L15", "A = [1]\n\n\ndef f():\n    A.append(1)\n"),
    ("L15", "A = [1]\n\n\ndef f():\n    A[0] = 1\n"),
    ("L15", "A = [1]\n\n\ndef f():\n    return A\n"),
    ("L15", "def f(round):\n    return round\n"),
    ("L15", "def f():\n    class A:\n        pass\n"),
    ("L17", "A = 1  # a type\n"),
    ("L17", "def f(a):\n    return a.open\n"),
    ("L18", "class A:\n    pass\n\n\ndef f():\n    return [A]\n"),
    ("L20", "def f(a, b):\n    return a is b\n"),
    ("L21", "def f(a: int):\n    return a\n"),
    ("L22", "def f(a):\n    b = len\n    return b(a)\n"),
    ("L22", "def f(a):\n    return int(a, base=2)\n"),
    ("L22", "def f(a, b):\n    return sorted(a, key=b)\n"),
    ("L23", "def f(a):\n    b = range(a)\n    return b\n"),
    ("L23", "def f(a):\n    for b in a:\n        a.append(b)\n"),
    ("L25", "def f(a):\n    a.sort()\n"),
    ("L26", "def f(a):\n    return a.real\n"),
    ("L27", "def f(a):\n    return 2 ** a\n"),
    ("L27", "A = 'a%'\n"),
    ("L27", "A = '\\x41'\n"),
    ("L28", "class A:\n    def __init__(self):\n        return 1\n"),
    ("L28", "class A:\n    def __len__(self):\n        return 1\n"),
]


def package_texts():
    return {path.stem: path.read_text(encoding="utf-8") for path in sorted(FOLDER.glob("*.py"))}


class Package(unittest.TestCase):
    def test_files(self):
        for name, text in package_texts().items():
            self.assertEqual(check_file(text), [], name)

    def test_imports(self):
        self.assertEqual(check_imports(package_texts()), [])

    def test_drawn_classes(self):
        self.assertEqual(check_drawn_classes(package_texts()), [])

    def test_methods_and_values(self):
        self.assertEqual(check_methods_and_values(package_texts()), [])

    def test_folder(self):
        # Python lays its cache there by itself; it is no part of the project.
        self.assertEqual(check_folder([path.name for path in FOLDER.iterdir() if path.name != "__pycache__"]), [])

    def test_there_is_something_to_look_at(self):
        self.assertIn("def answers(calls):", package_texts()["desk"])


class Finder(unittest.TestCase):
    def test_what_is_sent_back_is_found(self):
        for rule, text in SENT_BACK:
            self.assertIn(rule, [finding[0] for finding in check_file(text)], text)

    def test_imports_that_are_sent_back(self):
        for rule, texts in (
            ("L2", {"a": "from os import path\n"}),
            ("L2", {"a": "from .b import c\n", "b": "c = 1\n"}),
            ("L2", {"a": "def f():\n    from pairsevent.b import c\n    return c\n", "b": "c = 1\n"}),
            ("L2", {"a": "from pairsevent import b\n", "b": "c = 1\n"}),
            ("L16", {"a": "from pairsevent.b import d\n", "b": "from pairsevent.c import d\n", "c": "d = 1\n"}),
            ("L16", {"a": "from pairsevent.b import c\nd = 1\n", "b": "from pairsevent.a import d\nc = 1\n"}),
        ):
            self.assertIn(rule, [finding[0] for finding in check_imports(texts)], texts)
        self.assertIn("L3", [finding[0] for finding in check_file("import os\n")])

    def test_drawn_classes_that_are_sent_back(self):
        texts = {"a": "class A:\n    pass\n", "b": "from pairsevent.a import A\n\n\ndef f():\n    return [A]\n"}
        self.assertEqual(check_drawn_classes(texts), [("L18", 5, "b: A")])

    def test_names_that_are_sent_back(self):
        self.assertIn("L1", [finding[0] for finding in check_folder(["__init__.py", "notes.txt"])])
        self.assertIn("L14", [finding[0] for finding in check_folder(["__init__.py", "tests.py"])])
        self.assertIn("L14", [finding[0] for finding in check_folder(["desk.py"])])
        texts = {"a": "class A:\n    def b(self):\n        self.c = 1\n", "d": "class D:\n    def c(self):\n        pass\n"}
        self.assertEqual(check_methods_and_values(texts), [("L18", 1, "c")])


if __name__ == "__main__":
    unittest.main()

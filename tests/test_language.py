"""The form of the package, and that the checker of the rules sees what breaks them."""

import pathlib
import unittest

from language_rules import PACKAGE, faults

ROOT = pathlib.Path(__file__).resolve().parent.parent
INIT = {"__init__.py": '"""A package."""\n'}


def in_function(*rows):
    return "def work(xs, n):\n" + "".join(f"    {row}\n" for row in rows)


# A file named strands.py that breaks a rule, for every rule that one file can break.
BROKEN = [
    ("L2", "import sys\n"),
    ("L2", "from .other import name\n"),
    ("L2", "from fourletters.other import *\n"),
    ("L2", in_function("from fourletters.other import name", "return name")),
    ("L3", "ONE = len([])\n"),
    ("L3", "for i in range(3):\n    pass\n"),
    ("L4", "def work(*xs):\n    return xs\n"),
    ("L4", "def work(**xs):\n    return xs\n"),
    ("L4", "def work(*, x):\n    return x\n"),
    ("L4", in_function("def inner():", "    return 1", "return inner()")),
    ("L5", "class Strand:\n    pass\n"),
    ("L6", in_function("assert n")),
    ("L6", in_function("a = b = n", "return a + b")),
    ("L6", in_function("for x in xs:", "    pass", "else:", "    pass")),
    ("L6", in_function("while n:", "    pass", "else:", "    pass")),
    ("L6", in_function("yield n")),
    ("L6", in_function("n + 1")),
    ("L7", in_function("return n / 2")),
    ("L7", in_function("return n + 0.5")),
    ("L7", in_function("return b'A'")),
    ("L7", in_function("return [x + y for x in xs for y in xs]")),
    ("L7", in_function("return sum(x for x in xs)")),
    ("L7", in_function("return {x: 1 for x in xs}")),
    ("L7", in_function("return (m := n)")),
    ("L7", in_function("return [*xs]")),
    ("L7", in_function("return (")),
    ("L8", in_function("print(n)")),
    ("L8", in_function("return pow(n, 2)")),
    ("L8", in_function("return missing")),
    ("L8", "def sum(xs):\n    return xs\n"),
    ("L9", "from time import time\n"),
    ("L10", "# " + "x" * 119 + "\n"),
    ("L10", "def work(n):\n\treturn n\n"),
    ("L10", "\n" * 401),
    ("L10", in_function(*(["n = n + 1"] * 39), "return n")),
    ("L11", in_function("return work(xs, n - 1)")),
    ("L11", "def a(n):\n    return b(n)\n\n\ndef b(n):\n    return a(n)\n"),
    ("L12", in_function("_ = n")),
    ("L12", "def _work(n):\n    return n\n"),
    ("L13", in_function("return sorted(xs, key=lambda x: -x)")),
    ("L13", in_function("return {1, 2, 3}")),
    ("L14", "# \u00e4\n"),
    ("L15", "ONE = 1\nONE = 2\n"),
    ("L15", "MANY = [[1], [2]]\n"),
    ("L15", "MANY = [1, 2]\n\n\n" + in_function("MANY.append(n)")),
    ("L15", "MANY = [1, 2]\n\n\n" + in_function("MANY[0] = n")),
    ("L15", "MANY = [1, 2]\n\n\n" + in_function("return MANY")),
    ("L15", in_function("hash = n", "return hash")),
    ("L15", "def work(next):\n    return next\n"),
    ("L16", "from fourletters.strands import work\n\n\n" + in_function("return n")),
    ("L17", "# a type\n"),
    ("L17", "# mydataclasses\n"),
    ("L17", in_function("register = n", "return register")),
    ("L17", in_function("return eval(n)")),
    ("L18", "class Strand:\n    pass\n"),
    ("L19", in_function("try:", "    return xs[n]", "except IndexError:", "    return 0")),
    ("L19", in_function("raise ValueError(n)")),
    ("L20", in_function("return xs is n")),
    ("L20", in_function("return n is 1")),
    ("L21", "def work(n: int):\n    return n\n"),
    ("L21", "def work(n) -> int:\n    return n\n"),
    ("L21", in_function("m: int = n", "return m")),
    ("L22", in_function("m = len", "return m(xs)")),
    ("L22", in_function("return sorted(xs, reverse=n)")),
    ("L22", in_function("return int(n, base=2)")),
    ("L23", in_function("r = range(n)", "return list(r)")),
    ("L23", in_function("return zip(xs, xs)")),
    ("L23", in_function("for x in xs:", "    xs.append(x)")),
    ("L23", in_function("for i, x in enumerate(xs):", "    xs[i] = x")),
    ("L24", in_function("return {n}")),
    ("L25", in_function("xs.sort()")),
    ("L25", in_function("return xs.append")),
    ("L26", in_function("xs.items = n")),
    ("L27", in_function("return 2 ** n")),
    ("L27", in_function("return 2 ** 65")),
    ("L27", in_function("return 'a %'")),
    ("L27", in_function("return '\\x41'")),
    ("L27", "ONE = " + "1" * 901 + "\n"),
    ("L28", "class Strand:\n    def __init__(self):\n        return None\n"),
]

BROKEN_PACKAGES = [
    ("L1", {"notes.txt": "", **INIT}),
    ("L14", {"strands.py": ""}),
    ("L14", {"Strands.py": "", **INIT}),
    ("L14", {"test_strands.py": "", **INIT}),
    ("L14", {"filter.py": "", **INIT}),
    ("L16", {"__init__.py": "ONE = 1\n"}),
    ("L16", {
        "one.py": "from fourletters.two import two\n\n\ndef one():\n    return two()\n",
        "two.py": "from fourletters.one import one\n\n\ndef two():\n    return 2\n\n\ndef three():\n    return one()\n",
        **INIT,
    }),
]

KEPT = {
    "numbers.py": "LEAST = -1\nMANY = [1, 2]\nNAMED = {1: (2, 3)}\n\n\ndef double(n):\n    return n * 2 ** 64\n",
    "strands.py": '"""Words."""\n\nfrom fourletters.numbers import double\n\nMANY = (1, 2)\nSOME = [3, 4]\n\n\n'
    + in_function(
        '"""Words and no more."""',
        "told = []",
        "for i, x in enumerate(xs):",
        "    if x is not None and x in SOME:",
        "        told.append(double(SOME[i % 2]) >> MANY[0])",
        "while n > 0:",
        "    n -= 1",
        "told[0] = max(told[1:], default=0)",
        "return sorted([x // 2 for x in told if x], reverse=True) + list(SOME)",
    ),
    **INIT,
}


class Rules(unittest.TestCase):
    def test_what_breaks_a_rule_is_seen(self):
        for rule, text in BROKEN:
            with self.subTest(rule=rule, text=text):
                self.assertIn(rule, self.rules_of({"strands.py": text, **INIT}))

    def test_what_breaks_a_rule_of_files_is_seen(self):
        for rule, files in BROKEN_PACKAGES:
            with self.subTest(rule=rule, files=files):
                self.assertIn(rule, self.rules_of(files))

    def test_every_rule_is_tried(self):
        tried = {rule for rule, _ in BROKEN + BROKEN_PACKAGES}
        self.assertEqual(tried, {f"L{number}" for number in range(1, 29)})

    def test_what_keeps_the_rules_is_let_through(self):
        self.assertEqual(faults(KEPT), [])

    def rules_of(self, files):
        return [fault.split()[0] for fault in faults(files)]


class Form(unittest.TestCase):
    def test_the_package_keeps_the_rules(self):
        files = {}
        for path in (ROOT / PACKAGE).rglob("*"):
            # Python leaves this folder behind when the package is imported; it isn't part of the project.
            if "__pycache__" not in path.parts:
                name = path.relative_to(ROOT / PACKAGE).as_posix()
                files[name] = path.read_bytes().decode("utf-8") if path.is_file() else ""
        self.assertIn("strands.py", files)
        self.assertEqual(faults(files), [])

    def test_no_second_package(self):
        folders = [path.parent.name for path in ROOT.glob("*/__init__.py")]
        self.assertEqual(folders, ["fourletters"])


if __name__ == "__main__":
    unittest.main()

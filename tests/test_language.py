import os
import unittest

from tests.rules import PACKAGE, faults

FOLDER = os.path.join(os.path.dirname(os.path.dirname(os.path.abspath(__file__))), PACKAGE)
WRONG = (
    ("L2", "from os import path\n"),
    ("L3", "print(1)\n"),
    ("L4", "def f(*xs):\n    return xs\n"),
    ("L5", "class C:\n    x = 1\n"),
    ("L6", "def f(xs):\n    del xs[0]\n"),
    ("L6", "def f(x):\n    a = b = x\n    return a + b\n"),
    ("L7", "def f(x):\n    return x / 2\n"),
    ("L7", "def f(x):\n    return x * 1.5\n"),
    ("L8", "def f(x):\n    return float(x)\n"),
    ("L10", "def f(x):\n" + "    x += 1\n" * 40),
    ("L12", "def f(_x):\n    return 1\n"),
    ("L14", "# \u00e4\n"),
    ("L15", "def f(sum):\n    return sum\n"),
    ("L16", "import singlenet.held\n"),
    ("L16", "from singlenet.sample import other\n"),
    ("L17", "# a type\n"),
    ("L17", "def f(xs):\n    return xs.open\n"),
    ("L18", "class C:\n    def n(self):\n        return 1\n\n    def m(self):\n        self.n = 1\n"),
    ("L20", "def f(x, y):\n    return x is y\n"),
    ("L25", "def f(xs):\n    xs.sort()\n"),
    ("L26", "class C:\n    def m(self):\n        self.sort = 1\n"),
    ("L27", "def f(x):\n    return 2 ** x\n"),
)


class LanguageTest(unittest.TestCase):

    def test_nothing_but_files_of_the_program(self):
        for name in os.listdir(FOLDER):
            if name != "__pycache__":
                self.assertTrue(name.endswith(".py"), name)
                self.assertTrue(os.path.isfile(os.path.join(FOLDER, name)), name)
        self.assertTrue(os.path.isfile(os.path.join(FOLDER, "__init__.py")))

    def test_the_program_keeps_to_the_rules(self):
        sources = {}
        for name in os.listdir(FOLDER):
            if name.endswith(".py"):
                with open(os.path.join(FOLDER, name), encoding="ascii") as file:
                    sources[name[:-3]] = file.read()
        self.assertEqual(faults(sources), [])

    def test_the_rules_are_seen(self):
        for rule, source in WRONG:
            with self.subTest(rule=rule, source=source):
                found = faults({"sample": source})
                self.assertTrue(any((rule + " ") in fault for fault in found), found)


if __name__ == "__main__":
    unittest.main()

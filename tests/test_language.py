"""The files of the package keep those rules of the language that tests/language.py looks at."""

import pathlib
import unittest

from tests.language import cycles, faults, own_names

FOLDER = pathlib.Path(__file__).resolve().parent.parent / "betweenfaces"
WRONG = {
    "L2": ["import math\n", "from os import path\n", "from betweenfaces.ratios import *\n", "from . import ratios\n",
           "def f():\n    from betweenfaces.ratios import Ratio\n"],
    "L3": ["x = len([])\n", "for k in (1, 2):\n    pass\n"],
    "L4": ["def f(x=[]):\n    return x\n"],
    "L5": ["class A:\n    def __hash__(self):\n        return 1\n", "class A:\n    def __getitem__(self, at):\n        return at\n"],
    "L6": ["def f():\n    global x\n"],
    "L7": ["def f(x):\n    return x / 2\n", "def f(xs):\n    return any(x for x in xs)\n"],
    "L8": ["def f(x):\n    return type(x)\n", "def f(x):\n    return hash(x)\n", "def f(x):\n    return x.__dict__\n"],
    "L10": ["x = 1  #" + " " * 120 + "\n", "def f():\n" + "    pass\n" * 40, "\n" * 400],
    "L14": ["# \u00e9\n", "#\t\n"],
    "L15": ["def f(round):\n    return 1\n", "def f():\n    min = 1\n", "x = 1\nx = 2\n", "def id():\n    return 1\n"],
    "L17": ["def f(x):\n    return 'type'\n"],
    "L19": ["def f(x):\n    try:\n        return 1\n    except ValueError:\n        return 2\n", "def f(x):\n    raise x\n"],
    "L20": ["def f(x, y):\n    return x is y\n"],
    "L23": ["def f(x):\n    return len(zip(x, x))\n"],
    "L25": ["def f(x):\n    x.sort()\n", "def f(x):\n    return x.encoded()\n"],
    "L27": ["x = '%'\n", "x = 1.5\n"],
    "L28": ["class A:\n    def __str__(self):\n        x = 'a'\n        return x\n"],
}


class Language(unittest.TestCase):
    def setUp(self):
        self.files = sorted(path for path in FOLDER.rglob("*") if "__pycache__" not in path.parts)

    def test_the_folder_holds_modules_alone(self):
        self.assertTrue(self.files)
        for path in self.files:
            self.assertRegex(path.name, r"^[a-z_]+\.py$")

    def test_the_files_keep_the_rules(self):
        own = own_names([path.read_text() for path in self.files])
        for path in self.files:
            self.assertEqual(faults(path.read_text(), own), [], path.name)

    def test_no_two_files_import_from_each_other(self):
        self.assertEqual(cycles({path.stem: path.read_text() for path in self.files}), [])
        self.assertEqual(cycles({"a": "from betweenfaces.b import b\n", "b": "from betweenfaces.a import a\n"}), ["a", "b"])

    def test_what_breaks_a_rule_is_found(self):
        for rule, texts in WRONG.items():
            for text in texts:
                self.assertIn(rule, [found for found, line in faults(text)], text)

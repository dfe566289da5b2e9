"""The files of the package keep those rules of the language that tests/language.py looks at."""

import pathlib
import unittest

from tests.language import cycles, faults, own_names, package_faults, property_faults

FOLDER = pathlib.Path(__file__).resolve().parent.parent / "betweenfaces"
WRONG = {
    "L2": ["import math\n", "from os import path\n", "from betweenfaces.ratios import *\n", "from . import ratios\n",
           "def f():\n    from betweenfaces.ratios import Ratio\n"],
    "L3": ["x = len([])\n", "for k in (1, 2):\n    pass\n"],
    "L4": ["def f(x=[]):\n    return x\n"],
    "L5": ["class A:\n    def __hash__(self):\n        return 1\n", "class A:\n    def __getitem__(self, at):\n        return at\n"],
    "L6": ["def f():\n    global x\n"],
    "L7": ["def f(x):\n    return x / 2\n", "def f(xs):\n    return any(x for x in xs)\n"],
    "L8": ["def f(x):\n    return type(x)\n", "def f(x):\n    return hash(x)\n", "def f(x):\n    return x.__dict__\n"],
    "L10": ["x = 1  #" + " " * 120 + "\n", "def f():\n" + "    pass\n" * 40, "\n" * 400],
    "L14": ["# \u00e9\n", "#\t\n"],
    "L15": ["def f(round):\n    return 1\n", "def f():\n    min = 1\n", "x = 1\nx = 2\n", "def id():\n    return 1\n"],
    "L17": ["def f(x):\n    return 'type'\n"],
    "L19": ["def f(x):\n    try:\n        return 1\n    except ValueError:\n        return 2\n", "def f(x):\n    raise x\n"],
    "L20": ["def f(x, y):\n    return x is y\n"],
    "L23": ["def f(x):\n    return len(zip(x, x))\n"],
    "L25": ["def f(x):\n    x.sort()\n", "def f(x):\n    return x.encoded()\n"],
    "L27": ["x = '%'\n", "x = 1.5\n"],
    "L28": ["class A:\n    def __str__(self):\n        x = 'a'\n        return x\n"],
}


FIXED = "class A:\n    @property\n    def rows(self):\n        return self._rows\n"
SET = FIXED + "    @rows.setter\n    def rows(self, value):\n        self._rows = value\n"
WRONG_BY_NAME = {
    "L5": ["class B:\n    def __init__(self):\n        self.rows = 1\n", "def f(b):\n    b.x, b.rows = 1, 2\n",
           "def f(b):\n    b.rows += 1\n", "def f(b):\n    for b.rows in (1, 2):\n        pass\n",
           "def f(b):\n    del b.rows\n", "def f(b):\n    return b.rows()\n"],
    "L7": ["def f(b):\n    return f(*b.rows)\n", "def f(b):\n    return f(**b.rows)\n", "def f(b):\n    return [*b.rows]\n",
           "def f(b):\n    return (1, *b.rows)\n"],
}


STEPS = "def steps(x):\n    yield x\n"
WRONG_IN_THE_PACKAGE = {
    "L15": ["from betweenfaces.a import steps\n\n\ndef f(steps):\n    return 1\n", "class A:\n    pass\n\n\ndef f():\n    A = 1\n"],
    "L7": ["def f(x):\n    return f(*x.y.z)\n", "def f(x):\n    return f(**x[0])\n", "def f(x):\n    return f(*f(x))\n",
           "def f(xs):\n    return [[x for x in xs] for x in xs]\n", "def f(xs):\n    return [[xs for xs in x] for x in xs]\n"],
    "L23": ["def f(x):\n    return steps(x)\n", "def f(x):\n    y = steps(x)\n", "def f(x):\n    return f(steps(x))\n",
            "class A:\n    def steps(self):\n        return 1\n"],
    "L18": ["class A:\n    def __init__(self):\n        self.n = 1\n\n    def n(self):\n        return 1\n"],
}


class Language(unittest.TestCase):
    def setUp(self):
        self.files = sorted(path for path in FOLDER.rglob("*") if "__pycache__" not in path.parts)

    def test_the_folder_holds_modules_alone(self):
        self.assertTrue(self.files)
        for path in self.files:
            self.assertRegex(path.name, r"^[a-z_]+\.py$")

    def test_the_files_keep_the_rules(self):
        own = own_names([path.read_text() for path in self.files])
        for path in self.files:
            self.assertEqual(faults(path.read_text(), own), [], path.name)

    def test_no_two_files_import_from_each_other(self):
        self.assertEqual(cycles({path.stem: path.read_text() for path in self.files}), [])
        self.assertEqual(cycles({"a": "from betweenfaces.b import b\n", "b": "from betweenfaces.a import a\n"}), ["a", "b"])

    def test_the_files_keep_the_rules_of_properties(self):
        self.assertEqual(property_faults({path.name: path.read_text() for path in self.files}), [])

    def test_what_breaks_a_rule_of_properties_is_found(self):
        for rule, texts in WRONG_BY_NAME.items():
            for text in texts:
                told = property_faults({"a.py": FIXED, "b.py": text})
                self.assertEqual([(found, name) for found, name, line in told], [(rule, "b.py")], text)
        self.assertEqual(property_faults({"a.py": SET, "b.py": WRONG_BY_NAME["L5"][0]}), [])
        both = {"a.py": SET, "b.py": FIXED, "c.py": WRONG_BY_NAME["L5"][0]}
        self.assertEqual(property_faults(both), [("L5", "c.py", 3)])

    def test_the_files_keep_the_rules_of_names_and_generators(self):
        self.assertEqual(package_faults({path.name: path.read_text() for path in self.files}), [])

    def test_what_breaks_a_rule_of_names_and_generators_is_found(self):
        for rule, texts in WRONG_IN_THE_PACKAGE.items():
            for text in texts:
                told = package_faults({"a.py": STEPS, "b.py": text})
                self.assertEqual({found for found, name, line in told}, {rule}, text)
        right = "def f(x):\n    for one in steps(x):\n        pass\n    return [y for y in steps(x)] + list(steps(x))\n"
        self.assertEqual(package_faults({"a.py": STEPS, "b.py": right}), [])

    def test_what_breaks_a_rule_is_found(self):
        for rule, texts in WRONG.items():
            for text in texts:
                self.assertIn(rule, [found for found, line in faults(text)], text)

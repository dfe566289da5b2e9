"""The files of the package keep those rules of the language that tests/language.py looks at."""

import pathlib
import unittest

from tests.language import cycles, faults, own_names, package_faults, property_faults

FOLDER = pathlib.Path(__file__).resolve().parent.parent / "betweenfaces"
# What is changed in a loop over it, by its own name or by one that is assigned to it, or to which it is assigned.
LOOPS = [
    "    for x in a:\n        a.append(x)\n",
    "    for x in a:\n        if x:\n            return a.pop()\n",
    "    for x in list(a):\n        pass\n    for x, y in a.items():\n        a[x] = 1\n",
    "    for n, x in enumerate(a):\n        del a[n]\n",
    "    for x, y in zip(b, a):\n        a += [x]\n",
    "    for x in reversed(a):\n        a[0], n = x, 1\n",
    "    for x in a.rows:\n        a.rows.extend(b)\n",
    "    for x in a[n]:\n        a[n].clear()\n",
    "    for x in a if n else b:\n        b.update(n)\n",
    "    for x in a or b:\n        a.remove(x)\n",
    "    return [a.pop() for x in a]\n",
    "    for n in b:\n        for x in a.keys():\n            b.append(x)\n",
    "    for x in a:\n        heappush(a, x)\n",
    "    for n in b:\n        wider = {}\n        for x, y in a.items():\n            wider[x] = y\n        a = wider\n",
    "    wider = a\n    for x in wider:\n        a.append(x)\n",
    "    c = a\n    d = c\n    for x in a:\n        d.append(x)\n",
    "    a, b = b, a\n    for n, x in enumerate(b):\n        a[n] = x\n",
    "    c = d = a\n    for x in zip(c, b):\n        d.insert(0, x)\n",
    "    c: list = a\n    for x in c.values():\n        a.clear()\n",
    "    c = b if n else a\n    for x in c:\n        a.append(x)\n",
    "    self.rows = a\n    for x in self.rows:\n        a.append(x)\n",
    "    for c in (a, b):\n        for x in c:\n            b.append(x)\n",
]
# Here what is changed is another thing than what the loop goes over.
RIGHT_LOOPS = [
    "    for x in list(a):\n        a.append(x)\n",
    "    for x in sorted(a):\n        del a[x]\n",
    "    for x in a[1:]:\n        a.append(x)\n",
    "    wider = dict(a)\n    for x, y in a.items():\n        wider[x] = y\n    return wider\n",
    "    for n in b:\n        wider = {}\n        for x, y in list(a.items()):\n            wider[x] = y\n        a = wider\n",
    "    for x in a.rows:\n        a.names.append(x)\n",
    "    while a:\n        a.append(a.pop())\n",
    "    for x in a:\n        b[x] = [*a, n]\n",
]
WRONG = {
    "L2": ["import math\n", "from os import path\n", "from betweenfaces.ratios import *\n", "from . import ratios\n",
           "def f():\n    from betweenfaces.ratios import Ratio\n"],
    "L3": ["x = len([])\n", "for k in (1, 2):\n    pass\n"],
    "L4": ["def f(x=[]):\n    return x\n"],
    "L5": ["class A:\n    def __hash__(self):\n        return 1\n", "class A:\n    def __getitem__(self, at):\n        return at\n"],
    "L6": ["def f():\n    global x\n"],
    "L7": ["def f(x):\n    return x / 2\n", "def f(xs):\n    return any(x for x in xs)\n",
           "def f(d, xs):\n    d[(*xs, 1)] = 2\n", "def f(d, xs):\n    return d[(1, (*xs, 2))]\n",
           "def f(d, xs):\n    return d[0][[*xs][0]]\n", "def f(d, xs):\n    del d[*xs]\n", "def f(x, xs):\n    return x in {*xs, 1}\n"],
    "L8": ["def f(x):\n    return type(x)\n", "def f(x):\n    return hash(x)\n", "def f(x):\n    return x.__dict__\n"],
    "L10": ["x = 1  #" + " " * 120 + "\n", "def f():\n" + "    pass\n" * 40, "\n" * 400],
    "L14": ["# \u00e9\n", "#\t\n"],
    "L15": ["def f(round):\n    return 1\n", "def f():\n    min = 1\n", "x = 1\nx = 2\n", "def id():\n    return 1\n"],
    "L17": ["def f(x):\n    return 'type'\n"],
    "L19": ["def f(x):\n    try:\n        return 1\n    except ValueError:\n        return 2\n", "def f(x):\n    raise x\n"],
    "L20": ["def f(x, y):\n    return x is y\n"],
    "L23": ["def f(x):\n    return len(zip(x, x))\n", *[f"def f(a, b, n):\n{text}" for text in LOOPS]],
    "L25": ["def f(x):\n    x.sort()\n", "def f(x):\n    return x.encoded()\n"],
    "L27": ["x = '%'\n", "x = 1.5\n"],
    "L28": ["class A:\n    def __str__(self):\n        x = 'a'\n        return x\n"],
}


FIXED = "class A:\n    @property\n    def rows(self):\n        return self._rows\n"
SET = FIXED + "    @rows.setter\n    def rows(self, value):\n        self._rows = value\n"
WRONG_BY_NAME = {
    "L5": ["class B:\n    def __init__(self):\n        self.rows = 1\n", "def f(b):\n    b.x, b.rows = 1, 2\n",
           "def f(b):\n    b.rows += 1\n", "def f(b):\n    for b.rows in (1, 2):\n        pass\n",
           "def f(b):\n    del b.rows\n", "def f(b):\n    return b.rows()\n"],
    "L7": ["def f(b):\n    return f(*b.rows)\n", "def f(b):\n    return f(**b.rows)\n", "def f(b):\n    return [*b.rows]\n",
           "def f(b):\n    return (1, *b.rows)\n"],
}


STEPS = "def steps(x):\n    yield x\n"
WRONG_IN_THE_PACKAGE = {
    "L15": ["from betweenfaces.a import steps\n\n\ndef f(steps):\n    return 1\n", "class A:\n    pass\n\n\ndef f():\n    A = 1\n"],
    "L7": ["def f(x):\n    return f(*x.y.z)\n", "def f(x):\n    return f(**x[0])\n", "def f(x):\n    return f(*f(x))\n",
           "def f(xs):\n    return [[x for x in xs] for x in xs]\n", "def f(xs):\n    return [[xs for xs in x] for x in xs]\n"],
    "L23": ["def f(x):\n    return steps(x)\n", "def f(x):\n    y = steps(x)\n", "def f(x):\n    return f(steps(x))\n",
            "class A:\n    def steps(self):\n        return 1\n"],
    "L18": ["class A:\n    def __init__(self):\n        self.n = 1\n\n    def n(self):\n        return 1\n",
            "class A:\n    def n(self):\n        return 1\n\n\nclass B:\n    def __init__(self, a):\n        a.n = 1\n"],
}


class Language(unittest.TestCase):
    def setUp(self):
        self.files = sorted(path for path in FOLDER.rglob("*") if "__pycache__" not in path.parts)

    def test_the_folder_holds_modules_alone(self):
        self.assertTrue(self.files)
        for path in self.files:
            self.assertRegex(path.name, r"^[a-z_]+\.py$")

    def test_the_files_keep_the_rules(self):
        own = own_names([path.read_text() for path in self.files])
        for path in self.files:
            self.assertEqual(faults(path.read_text(), own), [], path.name)

    def test_no_two_files_import_from_each_other(self):
        self.assertEqual(cycles({path.stem: path.read_text() for path in self.files}), [])
        self.assertEqual(cycles({"a": "from betweenfaces.b import b\n", "b": "from betweenfaces.a import a\n"}), ["a", "b"])

    def test_the_files_keep_the_rules_of_properties(self):
        self.assertEqual(property_faults({path.name: path.read_text() for path in self.files}), [])

    def test_what_breaks_a_rule_of_properties_is_found(self):
        for rule, texts in WRONG_BY_NAME.items():
            for text in texts:
                told = property_faults({"a.py": FIXED, "b.py": text})
                self.assertEqual([(found, name) for found, name, line in told], [(rule, "b.py")], text)
        self.assertEqual(property_faults({"a.py": SET, "b.py": WRONG_BY_NAME["L5"][0]}), [])
        both = {"a.py": SET, "b.py": FIXED, "c.py": WRONG_BY_NAME["L5"][0]}
        self.assertEqual(property_faults(both), [("L5", "c.py", 3)])

    def test_the_files_keep_the_rules_of_names_and_generators(self):
        self.assertEqual(package_faults({path.name: path.read_text() for path in self.files}), [])

    def test_what_breaks_a_rule_of_names_and_generators_is_found(self):
        for rule, texts in WRONG_IN_THE_PACKAGE.items():
            for text in texts:
                told = package_faults({"a.py": STEPS, "b.py": text})
                self.assertEqual({found for found, name, line in told}, {rule}, text)
        right = "def f(x):\n    for one in steps(x):\n        pass\n    return [y for y in steps(x)] + list(steps(x))\n"
        self.assertEqual(package_faults({"a.py": STEPS, "b.py": right}), [])

    def test_what_breaks_a_rule_is_found(self):
        for rule, texts in WRONG.items():
            for text in texts:
                self.assertIn(rule, [found for found, line in faults(text)], text)

    def test_loops_and_stars_that_break_no_rule(self):
        for text in RIGHT_LOOPS:
            self.assertEqual(faults(f"def f(a, b, n):\n{text}"), [], text)
        for text in ("def f(d, xs):\n    peaks = (*xs, 1)\n    d[peaks] = [*xs]\n", "def f(d, x):\n    d[(1, x)] = f(*x)\n"):
            self.assertEqual(faults(text), [], text)

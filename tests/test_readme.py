"""The example of the README tells what the program does."""

import contextlib
import io
import pathlib
import unittest

README = pathlib.Path(__file__).resolve().parent.parent / "README.md"


class Readme(unittest.TestCase):
    def test_the_example(self):
        code = README.read_text().split("```python\n")[1].split("```")[0]
        want = [line[2:] for line in code.split("\n") if line.startswith("# ")]
        written = io.StringIO()
        with contextlib.redirect_stdout(written):
            exec(code, {})
        self.assertEqual(written.getvalue().rstrip("\n").split("\n"), want)

    def test_each_module_of_the_table_is_there(self):
        for line in README.read_text().split("\n"):
            if line.startswith("| `betweenfaces."):
                module = line.split("`")[1]
                self.assertTrue((README.parent / (module.replace(".", "/") + ".py")).is_file(), module)

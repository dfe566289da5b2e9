"""The examples of the README tell what the program does."""

import contextlib
import io
import pathlib
import unittest

README = pathlib.Path(__file__).resolve().parent.parent / "README.md"


class Readme(unittest.TestCase):
    def test_the_examples(self):
        examples = [text.split("```")[0] for text in README.read_text().split("```python\n")[1:]]
        self.assertEqual(len(examples), 2)
        for code in examples:
            want = [line[2:] for line in code.split("\n") if line.startswith("# ")]
            written = io.StringIO()
            with contextlib.redirect_stdout(written):
                exec(code, {})
            self.assertEqual(written.getvalue().rstrip("\n").split("\n"), want)

    def test_each_module_of_the_interface_is_told(self):
        for module in """errors ratios axes settings rooms tents quantities infer rows letters fewest fewcheck designs drawing cells forms formcheck
                alike alikecheck hats plain cutting flatten sparse leaving joining gluing changes masters widths boundcheck rising lines clear
                texts reader desk""".split():
            self.assertIn(f"| `betweenfaces.{module}` |", README.read_text())

    def test_each_module_of_the_table_is_there(self):
        for line in README.read_text().split("\n"):
            if line.startswith("| `betweenfaces."):
                module = line.split("`")[1]
                self.assertTrue((README.parent / (module.replace(".", "/") + ".py")).is_file(), module)

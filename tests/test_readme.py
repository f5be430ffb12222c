"""The code in README.md runs and prints what its comments say."""

import contextlib
import io
import pathlib
import re
import unittest

README = pathlib.Path(__file__).resolve().parent.parent / "README.md"


class Readme(unittest.TestCase):
    def test_the_code_runs(self):
        parts = re.findall(r"```python\n(.*?)```", README.read_text(), re.DOTALL)
        told = io.StringIO()
        with contextlib.redirect_stdout(told):
            exec("\n".join(parts), {})
        lines = told.getvalue().splitlines()
        num = ("tok", "num", 2)
        self.assertIn("12 [('tok', 'num', 0), ('err', 'field')] ('returned', ('obj', 0))", lines)
        self.assertIn("([('tok', 'num', 0), ('err', 'field')], ('returned', ('obj', 0)))", lines)
        self.assertIn("('fun', 'inc') [(0, ('own', 0))]", lines)
        self.assertIn("[('holds', 'box', (None, ('inc',)))]", lines)
        self.assertIn(f"('return', 4, [{num}, ('tok', 'num', 1)], ([], {{}}, []))", lines)
        for line in ("closed None", "('kind', ('start', 0)) ((), 'leaf')", "alike", "open None",
                     "3 [('plain', 'main', 5)]", "True True",
                     "['point', 'const', 'check', 'variant', 'return']"):
            self.assertIn(line, lines)
        self.assertEqual(lines.count("True"), 5)
        self.assertNotIn("False", told.getvalue())


if __name__ == "__main__":
    unittest.main()

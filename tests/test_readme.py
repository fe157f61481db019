"""The examples of README.md."""

import ast
import pathlib
import re
import unittest

README = pathlib.Path(__file__).resolve().parent.parent / "README.md"


class ReadmeTest(unittest.TestCase):

    def test_examples(self):
        text = README.read_text("utf-8")
        known, compared = {}, 0
        for block in re.findall(r"```python\n(.*?)```", text, re.S):
            rows = block.split("\n")
            for node in ast.parse(block).body:
                source = ast.get_source_segment(block, node)
                told = rows[node.end_lineno - 1].partition("#")[2].strip()
                if not isinstance(node, ast.Expr):
                    exec(source, known)
                    continue
                value = repr(eval(source, known))
                # What stands behind a sign and a colon or a comma is an explanation.
                if re.match(r"[\[({\d]|True|False", told):
                    self.assertIn(value, (told, told.split(":")[0], told.rpartition(":")[0]), source)
                    compared += 1
        self.assertGreater(compared, 10)


if __name__ == "__main__":
    unittest.main()

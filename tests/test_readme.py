"""The examples of README.md."""

import ast
import pathlib
import re
import unittest

README = pathlib.Path(__file__).parent.parent / "README.md"


class TestReadme(unittest.TestCase):
    def test_the_values_of_the_examples(self):
        """The examples are done one after another; each line with a comment that is a value has this value."""
        known = {}
        checked = 0
        for block in re.findall(r"```python\n(.*?)```", README.read_text(), re.S):
            lines = block.split("\n")
            for row in ast.parse(block).body:
                comment = re.search(r"\s# (\S.*)$", lines[row.end_lineno - 1])
                text = ast.get_source_segment(block, row)
                if isinstance(row, ast.Expr) and comment:
                    told = ast.literal_eval(comment.group(1).split(", the ")[0])
                    self.assertEqual(eval(text, known), told, text)
                    checked += 1
                else:
                    exec(text, known)
        self.assertGreaterEqual(checked, 50)


if __name__ == "__main__":
    unittest.main()

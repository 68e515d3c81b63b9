"""The examples of README.md."""

import pathlib
import re
import unittest

README = pathlib.Path(__file__).parent.parent / "README.md"


class TestReadme(unittest.TestCase):
    def test_the_values_behind_the_examples(self):
        """Each line with a comment that is a value has this value."""
        known = {}
        checked = 0
        for block in re.findall(r"```python\n(.*?)```", README.read_text(), re.S):
            exec(block, known)
            for line in block.split("\n"):
                found = re.match(r"(\S.*?)\s+# (\S+.*)$", line)
                if found and "=" not in found.group(1).replace("==", ""):
                    told = eval(found.group(2).split(", the ")[0])
                    self.assertEqual(eval(found.group(1), known), told, line)
                    checked += 1
        self.assertGreaterEqual(checked, 4)


if __name__ == "__main__":
    unittest.main()

"""The examples of README.md."""

import ast
import os
import re
import unittest

README = os.path.join(os.path.dirname(os.path.abspath(__file__)), os.pardir, "README.md")


class Readme(unittest.TestCase):
    def test_examples(self):
        """What stands behind a line as a comment is what the line gives."""
        with open(README, encoding="utf-8") as file:
            text = "".join(re.findall(r"```python\n(.*?)```", file.read(), re.S))
        lines = text.split("\n")
        names = {}
        told = 0
        for node in ast.parse(text).body:
            want = lines[node.end_lineno - 1].partition("  # ")[2]
            if want:
                told += 1
                self.assertEqual(eval(ast.unparse(node), names), eval(want), ast.unparse(node))
            else:
                exec(ast.unparse(node), names)
        self.assertEqual(told, 6)


if __name__ == "__main__":
    unittest.main()

"""The examples of README.md, and what their comments tell."""

import ast
import os
import re
import unittest

from anylead.errors import BadNumber

README = os.path.join(os.path.dirname(os.path.dirname(os.path.abspath(__file__))), "README.md")


def told_by(comment):
    """The value that a comment begins with; a word for none."""
    for end in range(len(comment), 0, -1):
        if end == len(comment) or comment[end] == ":":
            try:
                return ast.literal_eval(comment[:end].strip())
            except (ValueError, SyntaxError):
                continue
    return "nothing is told"


class Readme(unittest.TestCase):
    def test_examples(self):
        with open(README, encoding="utf-8") as file:
            blocks = re.findall(r"```python\n(.*?)```", file.read(), re.DOTALL)
        names, compared = {}, 0
        for block in blocks[:-1]:
            lines = block.split("\n")
            for node in ast.parse(block).body:
                source = "\n".join(lines[node.lineno - 1:node.end_lineno])
                if not isinstance(node, ast.Expr):
                    exec(compile(source, README, "exec"), names)
                    continue
                value = eval(compile(ast.Expression(node.value), README, "eval"), names)
                comment = lines[node.end_lineno - 1][node.end_col_offset:].strip()
                if not comment and lines[node.end_lineno][:2] == "# ":
                    comment = lines[node.end_lineno]
                wanted = told_by(comment[1:].strip()) if comment else "nothing is told"
                if wanted != "nothing is told":
                    self.assertEqual(value, wanted, source)
                    compared += 1
        self.assertGreater(compared, 45)
        with self.assertRaises(BadNumber):
            exec(blocks[-1], names)


if __name__ == "__main__":
    unittest.main()

"""The rows of README.md run, and tell what stands beside them."""

import ast
import pathlib
import re
import unittest

README = pathlib.Path(__file__).resolve().parent.parent / "README.md"

BLOCKS = re.findall(r"^```python\n(.*?)^```", README.read_text(encoding="utf-8"), re.M | re.S)


def value_in(comment):
    """A pair (value,) if a comment begins with one, () if it does not."""
    for end in [len(comment)] + [found.start() for found in re.finditer(r"[:,;]| \w", comment)][::-1]:
        try:
            return (ast.literal_eval(comment[:end].strip(" ,")),)
        except (ValueError, SyntaxError):
            continue
    return ()


class ReadmeTest(unittest.TestCase):
    def test_its_rows_run_and_tell_what_stands_beside_them(self):
        names = {}
        seen = 0
        for block in BLOCKS:
            lines = block.splitlines()
            for node in ast.parse(block).body:
                expected = value_in(lines[node.end_lineno - 1].partition("# ")[2])
                if isinstance(node, ast.Expr) and expected:
                    seen += 1
                    self.assertEqual((eval(ast.unparse(node), names),), expected, ast.unparse(node))
                else:
                    exec(ast.unparse(node), names)
        self.assertGreater(seen, 20)


if __name__ == "__main__":
    unittest.main()

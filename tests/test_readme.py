"""What README.md says of its own examples."""

import ast
import pathlib
import re
import unittest

README = pathlib.Path(__file__).resolve().parent.parent / "README.md"


def told_value(comment):
    """The value with which a comment begins, as a tuple of one item, or None if it begins with none."""
    for end in range(len(comment), 0, -1):
        if comment[:end].rstrip().endswith(","):
            continue
        try:
            return (ast.literal_eval(comment[:end].strip()),)
        except (SyntaxError, ValueError):
            continue
    return None


class ReadmeTest(unittest.TestCase):
    def test_examples(self):
        names, compared = {}, 0
        for block in re.findall(r"```python\n(.*?)```", README.read_text(encoding="utf-8"), re.S):
            lines = block.split("\n")
            for node in ast.parse(block).body:
                source = ast.get_source_segment(block, node)
                if not isinstance(node, ast.Expr):
                    exec(source, names)
                    continue
                value = eval(source, names)
                told = told_value(lines[node.end_lineno - 1][node.end_col_offset:].strip().lstrip("# "))
                if told is not None and "..." not in lines[node.end_lineno - 1]:
                    self.assertEqual(value, told[0], source)
                    compared += 1
        self.assertTrue(compared > 18, compared)

    def test_modules(self):
        """The table tells of each module of the interface, and of no other one."""
        told = re.findall(r"^\| `pacehouse\.(\w+)` \|", README.read_text(encoding="utf-8"), re.M)
        self.assertEqual(len(told), len(set(told)))
        for module in told:
            self.assertTrue((README.parent / "pacehouse" / f"{module}.py").is_file(), module)
        self.assertTrue({"rules", "plain", "relays", "pieces", "recordings", "studios", "house", "findings", "console"} <= set(told))


if __name__ == "__main__":
    unittest.main()

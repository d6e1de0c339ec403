"""The README's examples tell what the program tells."""

import ast
import pathlib
import re
import unittest

README = pathlib.Path(__file__).resolve().parent.parent / "README.md"


def told(line):
    """What stands behind the line's sign: a plain value, with words behind a colon or none."""
    behind = line.split("#", 1)[1].strip()
    try:
        return ast.literal_eval(behind)
    except SyntaxError:
        return ast.literal_eval(behind.split(": ", 1)[0])


class Readme(unittest.TestCase):

    def test_examples(self):
        names, checked = {}, 0
        for block in re.findall("```python\n(.*?)```", README.read_text(), re.DOTALL):
            for line in block.splitlines():
                if re.match(r"(ladder\.|write_ladder)", line):
                    self.assertEqual(eval(line, names), told(line), line)
                    checked += 1
                else:
                    exec(line, names)
        self.assertEqual(checked, 10)


if __name__ == "__main__":
    unittest.main()

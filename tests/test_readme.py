"""The README's examples tell what the program tells."""

import pathlib
import re
import unittest

README = pathlib.Path(__file__).resolve().parent.parent / "README.md"
# What stands behind the sign in words, not as a value.
IN_WORDS = ["a ladder just like it"]


def told(behind, names):
    """What stands behind the line's sign: a value, with words behind a colon or none."""
    try:
        return eval(behind, names)
    except SyntaxError:
        return eval(behind.split(": ", 1)[0], names)


class Readme(unittest.TestCase):

    def test_examples(self):
        names, checked = {}, 0
        for block in re.findall("```python\n(.*?)```", README.read_text(), re.DOTALL):
            for line in block.splitlines():
                code, _, behind = (piece.strip() for piece in line.partition("#"))
                if code == "" or behind == "" or behind in IN_WORDS:
                    exec(line, names)
                else:
                    wanted, found = told(behind, names), eval(code, names)
                    self.assertEqual(found, wanted, line)
                    self.assertIs(type(found), type(wanted), line)
                    checked += 1
        self.assertEqual(checked, 61)


if __name__ == "__main__":
    unittest.main()

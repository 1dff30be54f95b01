"""What README.md shows is what the program tells."""

import ast
import re
import unittest
from pathlib import Path

README = Path(__file__).resolve().parent.parent / "README.md"


def shown_lines():
    """Each line of the code in README.md, with what is shown behind it."""
    for block in re.findall(r"```python\n(.*?)```", README.read_text(encoding="utf-8"), re.DOTALL):
        for line in block.splitlines():
            done, sign, shown = line.partition(" # ")
            if done.strip():
                yield done.strip(), shown


def shown_value(shown):
    """The value at the head of what is shown, up to where words go on; nothing where there are words alone."""
    for end in [found.start() for found in re.finditer(r"[:;,]|$", shown)][::-1]:
        try:
            return [ast.literal_eval(shown[:end])]
        except (SyntaxError, ValueError):
            pass
    return []


class ReadmeTest(unittest.TestCase):
    def test_shown_values(self):
        known, checked = {}, 0
        for done, shown in shown_lines():
            if isinstance(ast.parse(done).body[0], ast.Expr):
                told = eval(done, known)
                for value in shown_value(shown):
                    self.assertEqual(repr(told), repr(value), done)
                    checked += 1
            else:
                exec(done, known)
        self.assertGreater(checked, 50)


if __name__ == "__main__":
    unittest.main()

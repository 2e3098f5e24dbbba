"""The examples of README.md give what it says beside them."""

import pathlib
import re
import unittest

README = pathlib.Path(__file__).resolve().parent.parent / "README.md"


def is_expression(code):
    try:
        compile(code, "README.md", "eval")
    except SyntaxError:
        return False
    return True


class Examples(unittest.TestCase):
    def test_examples(self):
        names = {}
        checked = 0
        for block in re.findall(r"```python\n(.*?)```", README.read_text(encoding="utf-8"), re.S):
            exec(block, names)
            for line in block.splitlines():
                code, mark, told = line.partition(" # ")
                value = re.match(r"(True|False|\d+(?=$|:)|\(.*\)$)", told.strip())
                if mark and value and is_expression(code.strip()):
                    with self.subTest(code.strip()):
                        self.assertEqual(eval(code, names), eval(value.group(0)))
                    checked += 1
        self.assertEqual(checked, 26)

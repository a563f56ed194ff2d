"""README.md's examples answer what it says."""

import ast
import re
import unittest
from pathlib import Path

from setpress.boxes import answers

README = Path(__file__).resolve().parent.parent / "README.md"


class Examples(unittest.TestCase):

    def test_examples(self):
        blocks = re.findall(r"```python\n(.*?)```", README.read_text(encoding="utf-8"), re.DOTALL)
        self.assertEqual(len(blocks), 2)
        for block in blocks:
            calls, told = re.search(r"answers\((\[.*?\n\])\)\n(.*)", block, re.DOTALL).groups()
            self.assertEqual(answers(ast.literal_eval(calls)), ast.literal_eval(told.replace("#", " ").strip()))


if __name__ == "__main__":
    unittest.main()

"""What README.md shows is what the program tells."""

import ast
import pathlib
import re
import unittest

README = pathlib.Path(__file__).resolve().parent.parent / "README.md"


class Readme(unittest.TestCase):
    def test_each_line_with_an_answer(self):
        (block,) = re.findall(r"```python\n(.*?)```", README.read_text(encoding="utf-8"), re.DOTALL)
        block = re.sub(r"\n +#", "  #", block)
        names, looked_at = {}, 0
        for row in block.splitlines():
            exec(row, names)
            code, _, answer = row.partition("  #")
            try:
                expected = ast.literal_eval(answer.strip())
            except (SyntaxError, ValueError):
                continue
            code = code.split(" = ")[-1].strip()
            self.assertEqual(eval(code, names), expected, row)
            looked_at += 1
        self.assertEqual(looked_at, 32)


if __name__ == "__main__":
    unittest.main()

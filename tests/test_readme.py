"""What README.md shows is what the program tells."""

import ast
import pathlib
import re
import unittest

README = pathlib.Path(__file__).resolve().parent.parent / "README.md"


class Readme(unittest.TestCase):
    def test_each_line_with_an_answer(self):
        (block,) = re.findall(r"```python\n(.*?)```", README.read_text(encoding="utf-8"), re.DOTALL)
        block = re.sub(r"\n +#", "  #", block)
        names, looked_at = {}, 0
        for row in block.splitlines():
            code, _, answer = row.partition("  #")
            try:
                expected = ast.literal_eval(answer.strip())
            except (SyntaxError, ValueError):
                exec(row, names)
                continue
            # Each line is gone through once: some of them are deeds.
            name, _, code = code.strip().rpartition(" = ")
            told = eval(code, names)
            if name:
                names[name] = told
            self.assertEqual(told, expected, row)
            looked_at += 1
        self.assertEqual(looked_at, 51)


if __name__ == "__main__":
    unittest.main()

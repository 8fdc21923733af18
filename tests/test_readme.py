"""The examples of README.md tell what stands behind them."""

import pathlib
import re
import unittest

README = pathlib.Path(__file__).resolve().parent.parent / "README.md"


class ReadmeTest(unittest.TestCase):
    def test_each_row(self):
        answers = []
        for code in re.findall(r"```python\n(.*?)```", README.read_text(encoding="utf-8"), re.DOTALL):
            scope = {}
            answers.append(0)
            for row in code.splitlines():
                told = re.fullmatch(r"(.*\S) +# (.+)", row)
                if told:
                    self.assertEqual(repr(eval(told.group(1), scope)), told.group(2))
                    answers[-1] += 1
                else:
                    exec(row, scope)
        self.assertEqual(len(answers), 6)
        self.assertGreater(min(answers), 5)


if __name__ == "__main__":
    unittest.main()

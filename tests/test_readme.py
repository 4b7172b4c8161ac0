"""What README.md says the calls give back, they do."""

import unittest
from pathlib import Path

README = Path(__file__).resolve().parent.parent / "README.md"


class Examples(unittest.TestCase):
    def test_each_example(self):
        code = README.read_text(encoding="utf-8").split("```python\n")[1].split("```")[0]
        names = {}
        exec(code, names)
        examples = [line.split("# ") for line in code.split("\n") if ")" in line and "# [" in line]
        self.assertEqual(len(examples), 5)
        for call, told in examples:
            self.assertEqual(eval(call, names), eval(told), call)


if __name__ == "__main__":
    unittest.main()

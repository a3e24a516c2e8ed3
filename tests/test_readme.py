"""What README.md shows is what is told."""

import pathlib
import re
import unittest

README = pathlib.Path(__file__).resolve().parent.parent / "README.md"


class TestReadme(unittest.TestCase):
    def test_examples(self):
        shown = 0
        names = {}
        for block in re.findall(r"```python\n(.*?)```", README.read_text("utf-8"), re.DOTALL):
            for line in block.splitlines():
                asked, sign, told = line.partition("  # ")
                if sign:
                    shown += 1
                    self.assertEqual(repr(eval(asked, names)), repr(eval(told)), line)
                else:
                    exec(line, names)
        self.assertGreater(shown, 0)


if __name__ == "__main__":
    unittest.main()

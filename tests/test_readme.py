"""What README.md shows is what the program tells."""

import os
import re
import unittest

ROOT = os.path.dirname(os.path.dirname(os.path.abspath(__file__)))


class Readme(unittest.TestCase):
    def test_its_rows_tell_what_they_say(self):
        with open(os.path.join(ROOT, "README.md"), encoding="utf-8") as file:
            readme = file.read()
        blocks = re.findall(r"```python\n(.*?)```", readme, re.DOTALL)
        names, looked_at = {}, 0
        for block in blocks:
            exec(block, names)
            for row in block.splitlines():
                told = re.match(r"(\S.*?[^\s,])\s\s+# ([\[('].*|False|True|None\b.*)\Z", row)
                if told:
                    looked_at += 1
                    said = told.group(2).split(": ")[0]
                    self.assertEqual(eval(told.group(1), names), eval(said), row)
        self.assertEqual(len(blocks), 7)
        self.assertEqual(looked_at, 16)
        self.assertEqual(re.findall(r"```text\n(.*?)\n```", readme, re.DOTALL), [names["text"]])


if __name__ == "__main__":
    unittest.main()

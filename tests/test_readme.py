"""The examples of README.md: behind each expression stands what it gives."""

import pathlib
import re
import unittest

README = pathlib.Path(__file__).resolve().parent.parent / "README.md"
PACKAGE = README.parent / "lumpplans"


class ReadmeTest(unittest.TestCase):
    def test_examples(self):
        names = {}
        checked = 0
        for block in re.findall(r"```python\n(.*?)```", README.read_text(encoding="utf-8"), re.DOTALL):
            for line in block.splitlines():
                code, _, told = line.partition("  # ")
                try:
                    found = eval(code, names)
                except SyntaxError:
                    exec(code, names)
                    continue
                if told:
                    checked += 1
                    self.assertEqual(repr(found), re.sub(r": .*", "", told.strip()), line)
        self.assertGreater(checked, 20)

    def test_modules_are_named(self):
        text = README.read_text(encoding="utf-8")
        for path in PACKAGE.glob("*.py"):
            if path.stem != "__init__":
                self.assertIn(f"`lumpplans.{path.stem}`", text)


if __name__ == "__main__":
    unittest.main()

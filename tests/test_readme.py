"""What README.md shows is what the program does."""

import doctest
import pathlib
import re
import unittest

ROOT = pathlib.Path(__file__).resolve().parent.parent


class Readme(unittest.TestCase):
    def test_examples(self):
        text = (ROOT / "README.md").read_text()
        shown = [block for block in re.findall(r"```\n(.*?)```", text, re.DOTALL) if ">>>" in block]
        self.assertTrue(shown)
        for block in shown:
            example = doctest.DocTestParser().get_doctest(block, {}, "README.md", None, 0)
            self.assertEqual(doctest.DocTestRunner().run(example).failed, 0)

    def test_all_files_are_told(self):
        text = (ROOT / "README.md").read_text()
        for path in (ROOT / "lotshown").glob("*.py"):
            if path.name != "__init__.py":
                self.assertIn("`lotshown/" + path.name + "`", text)


if __name__ == "__main__":
    unittest.main()

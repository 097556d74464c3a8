"""The examples of README.md give what it shows."""

import doctest
import pathlib
import re
import unittest

README = pathlib.Path(__file__).resolve().parent.parent / "README.md"


class ReadmeTest(unittest.TestCase):
    def test_examples(self):
        names = {}
        blocks = [block for block in re.findall(r"```\n(.*?)```", README.read_text(encoding="utf-8"), re.S) if ">>>" in block]
        self.assertGreater(len(blocks), 3)
        for number, block in enumerate(blocks):
            # A later block goes on where the one ahead of it ended.
            test = doctest.DocTestParser().get_doctest(block, names, f"block {number}", str(README), 0)
            told = []
            doctest.DocTestRunner().run(test, out=told.append, clear_globs=False)
            names = test.globs
            self.assertEqual(told, [], "".join(told))

    def test_modules(self):
        listed = set(re.findall(r"`(?:answercut\.)?([a-z]+)`", README.read_text(encoding="utf-8")))
        files = {path.stem for path in (README.parent / "answercut").glob("*.py")} - {"__init__"}
        self.assertEqual(files - listed, set())


if __name__ == "__main__":
    unittest.main()

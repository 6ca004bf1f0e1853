"""What README.md shows is what the program does."""

import doctest
import unittest
from pathlib import Path

README = Path(__file__).resolve().parent.parent / "README.md"


class Readme(unittest.TestCase):
    def test_examples(self):
        # Each example ends at the end of its block, so the marks of blocks are no part of what is expected.
        text = README.read_text(encoding="utf-8").replace("```", "")
        example = doctest.DocTestParser().get_doctest(text, {}, "README.md", str(README), 0)
        self.assertGreater(len(example.examples), 20)
        shown = []
        doctest.DocTestRunner(verbose=False).run(example, out=shown.append)
        self.assertEqual("".join(shown), "")

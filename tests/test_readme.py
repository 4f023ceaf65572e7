"""The examples of README.md."""

import doctest
import pathlib
import unittest

README = pathlib.Path(__file__).resolve().parent.parent / "README.md"


class Readme(unittest.TestCase):
    def test_examples(self):
        # The fences around the examples are no part of what is printed.
        text = README.read_text(encoding="utf-8").replace("```", "")
        test = doctest.DocTestParser().get_doctest(text, {}, "README.md", None, 0)
        found = doctest.DocTestRunner(verbose=False).run(test)
        self.assertGreater(found.attempted, 25)
        self.assertEqual(found.failed, 0)


if __name__ == "__main__":
    unittest.main()

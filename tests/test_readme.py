"""The README: its examples hold, and its table names the package's modules."""

import doctest
import os
import unittest

ROOT = os.path.dirname(os.path.dirname(os.path.abspath(__file__)))


def text_of_readme():
    with open(os.path.join(ROOT, "README.md"), encoding="utf-8") as stream:
        return stream.read()


class Readme(unittest.TestCase):
    def test_examples(self):
        # The end of a block of code would be taken for a part of what is told.
        text = text_of_readme().replace("```", "")
        examples = doctest.DocTestParser().get_doctest(text, {}, "README.md", "README.md", 0)
        told = doctest.DocTestRunner().run(examples)
        self.assertEqual(told.failed, 0)
        self.assertGreater(told.attempted, 10)

    def test_modules(self):
        text = text_of_readme()
        for name in os.listdir(os.path.join(ROOT, "onenumber")):
            if name.endswith(".py") and name != "__init__.py":
                self.assertIn(f"| `{name[:-3]}` |", text)


if __name__ == "__main__":
    unittest.main()

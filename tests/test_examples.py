"""The examples of README.md."""

import builtins
import doctest
import pathlib
import unittest

README = pathlib.Path(__file__).resolve().parent.parent / "README.md"


class ExamplesTest(unittest.TestCase):
    def test_readme(self):
        # Doctest leaves the last value of an example there, as Python's prompt does.
        self.addCleanup(vars(builtins).pop, "_", None)
        # A line that ends an example's output has to be empty for doctest.
        text = README.read_text("ascii").replace("```", "")
        examples = doctest.DocTestParser().get_doctest(text, {}, "README.md", str(README), 0)
        found = doctest.DocTestRunner(verbose=False, optionflags=doctest.IGNORE_EXCEPTION_DETAIL).run(examples)
        self.assertGreater(found.attempted, 0)
        self.assertEqual(found.failed, 0)


if __name__ == "__main__":
    unittest.main()

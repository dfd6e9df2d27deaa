"""The examples of README.md."""

import doctest
import pathlib
import unittest

README = pathlib.Path(__file__).resolve().parent.parent / "README.md"


class TestReadme(unittest.TestCase):
    def test_its_examples_give_what_it_shows(self):
        # A fence right behind an example would count as something that the example shows.
        text = README.read_text(encoding="utf-8").replace("```", "")
        examples = doctest.DocTestParser().get_doctest(text, {}, "README.md", str(README), 0)
        reports = []
        found = doctest.DocTestRunner(verbose=False).run(examples, out=reports.append)
        self.assertEqual("".join(reports), "")
        self.assertGreater(found.attempted, 20)


if __name__ == "__main__":
    unittest.main()

"""The examples of README.md are right."""

import doctest
import pathlib
import unittest

README = pathlib.Path(__file__).resolve().parent.parent / "README.md"


class ReadmeTest(unittest.TestCase):
    def test_examples(self):
        # An empty line ends what an example is expected to tell.
        text = README.read_text(encoding="utf-8").replace("```", "\n")
        test = doctest.DocTestParser().get_doctest(text, {}, "README.md", str(README), 0)
        self.assertGreater(len(test.examples), 10)
        told = []
        doctest.DocTestRunner().run(test, out=told.append)
        self.assertEqual("".join(told), "")

    def test_all_files_are_named(self):
        text = README.read_text(encoding="utf-8")
        for path in (README.parent / "turnweights").glob("*.py"):
            if path.name != "__init__.py":
                self.assertIn(f"`turnweights/{path.name}`", text)


if __name__ == "__main__":
    unittest.main()

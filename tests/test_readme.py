"""That the examples in README.md are true."""

import doctest
import pathlib
import unittest

README = pathlib.Path(__file__).resolve().parent.parent / "README.md"


class Readme(unittest.TestCase):
    def test_examples(self):
        text = "\n".join("" if line == "```" else line for line in README.read_text(encoding="utf-8").splitlines())
        example = doctest.DocTestParser().get_doctest(text, {}, "README", str(README), 0)
        self.assertGreater(len(example.examples), 30)
        told = []
        doctest.DocTestRunner().run(example, out=told.append)
        self.assertEqual("".join(told), "")


if __name__ == "__main__":
    unittest.main()

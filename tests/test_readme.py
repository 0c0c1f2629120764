"""What README.md shows is so."""

import doctest
import pathlib
import unittest

README = pathlib.Path(__file__).parent.parent / "README.md"


class Examples(unittest.TestCase):

    def test_examples(self):
        # A fence would be read as a part of the answer above it.
        text = README.read_text().replace("~~~", "")
        examples = doctest.DocTestParser().get_doctest(text, {}, "README.md", None, 0)
        self.assertGreater(len(examples.examples), 8)
        printed = []
        found = doctest.DocTestRunner().run(examples, out=printed.append)
        self.assertEqual(found.failed, 0, "".join(printed))


if __name__ == "__main__":
    unittest.main()

"""The examples in README.md and what they tell."""

import doctest
import pathlib
import unittest

README = pathlib.Path(__file__).resolve().parent.parent / "README.md"


class Examples(unittest.TestCase):
    def test_they_tell_what_is_shown(self):
        # The ends of blocks are no part of what is told.
        lines = ["" if line.startswith("```") else line for line in README.read_text().split("\n")]
        examples = doctest.DocTestParser().get_doctest("\n".join(lines), {}, "README.md", "README.md", 0)
        self.assertGreater(len(examples.examples), 20)
        told = []
        doctest.DocTestRunner().run(examples, out=told.append)
        self.assertEqual(told, [])


if __name__ == "__main__":
    unittest.main()

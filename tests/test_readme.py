"""Tests that README.md shows what the program does."""

import doctest
import os
import unittest

PLACE = os.path.join(os.path.dirname(os.path.abspath(__file__)), os.pardir, "README.md")


class TestReadme(unittest.TestCase):
    def test_examples(self):
        with open(PLACE, encoding="utf-8") as file:
            text = file.read().replace("```", "")
        test = doctest.DocTestParser().get_doctest(text, {}, "README.md", PLACE, 0)
        self.assertGreater(len(test.examples), 20)
        told = []
        result = doctest.DocTestRunner().run(test, out=told.append)
        self.assertEqual(result.failed, 0, "".join(told))


if __name__ == "__main__":
    unittest.main()

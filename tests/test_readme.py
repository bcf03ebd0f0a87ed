"""Tests that the examples of README.md answer as they stand."""

import os
import unittest

from helper import check_examples

README = os.path.join(os.path.dirname(os.path.dirname(os.path.abspath(__file__))), "README.md")


class ReadmeTests(unittest.TestCase):
    def test_examples(self):
        with open(README, encoding="ascii") as file:
            text = file.read()
        many = text.count("\n>>> ")
        self.assertGreater(many, 0)
        check_examples(self, text, many)


if __name__ == "__main__":
    unittest.main()

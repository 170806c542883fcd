"""The examples of README.md hold."""

import doctest
import unittest


class Readme(unittest.TestCase):
    def test_the_examples(self):
        result = doctest.testfile("../README.md", package="tests", encoding="utf-8")
        self.assertGreater(result.attempted, 0)
        self.assertEqual(result.failed, 0)


if __name__ == "__main__":
    unittest.main()

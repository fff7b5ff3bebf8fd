"""The examples of README.md."""

import doctest
import pathlib
import unittest


class Readme(unittest.TestCase):
    def test_the_examples(self):
        path = pathlib.Path(__file__).parent.parent / "README.md"
        failed, tried = doctest.testfile(str(path), module_relative=False)
        self.assertEqual(failed, 0)
        self.assertGreater(tried, 8)

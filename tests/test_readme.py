import doctest
import pathlib
import unittest


class Readme(unittest.TestCase):
    def test_its_examples_are_so(self):
        path = pathlib.Path(__file__).resolve().parent.parent / "README.md"
        failed, tried = doctest.testfile(str(path), module_relative=False)
        self.assertEqual(failed, 0)
        self.assertGreater(tried, 0)

import doctest
import pathlib
import unittest

EXAMPLES = pathlib.Path(__file__).resolve().parent / "examples.txt"


class TestDocument(unittest.TestCase):
    def test_its_examples_hold(self):
        told = doctest.testfile(str(EXAMPLES), module_relative=False)
        self.assertEqual(told.attempted, 43)
        self.assertEqual(told.failed, 0)

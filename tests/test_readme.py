"""README.md shows what the program tells."""

import doctest
import unittest
from pathlib import Path


class Readme(unittest.TestCase):
    def test_its_examples(self):
        found = doctest.testfile(str(Path(__file__).resolve().parent.parent / "README.md"), module_relative=False)
        self.assertEqual(0, found.failed)
        self.assertGreater(found.attempted, 5)

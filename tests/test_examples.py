"""Every example of the interface, as it stands there."""

import doctest
import os
import unittest

EXAMPLES = os.path.join(os.path.dirname(os.path.abspath(__file__)), "examples.txt")


class ExamplesTest(unittest.TestCase):
    def test_examples(self):
        result = doctest.testfile(EXAMPLES, module_relative=False)
        self.assertEqual(0, result.failed)
        self.assertGreater(result.attempted, 20)

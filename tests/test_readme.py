"""The examples of README.md."""

import doctest
import os
import unittest

README = os.path.join(os.path.dirname(os.path.dirname(os.path.abspath(__file__))), "README.md")


class Examples(unittest.TestCase):
    def test_examples_of_the_readme(self):
        told = doctest.testfile(README, module_relative=False)
        self.assertEqual(told.failed, 0)
        self.assertGreater(told.attempted, 30)


if __name__ == "__main__":
    unittest.main()

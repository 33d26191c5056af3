"""The session in README.md gives what it says."""

import doctest
import os
import unittest

README = os.path.join(os.path.dirname(os.path.dirname(os.path.abspath(__file__))), "README.md")


class ReadmeTest(unittest.TestCase):
    def test_session(self):
        failed, many = doctest.testfile(README, module_relative=False, encoding="utf-8")
        self.assertEqual(failed, 0)
        self.assertGreater(many, 0)


if __name__ == "__main__":
    unittest.main()

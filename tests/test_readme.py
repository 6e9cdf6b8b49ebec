import doctest
import os
import unittest


class Readme(unittest.TestCase):
    def test_its_examples_hold(self):
        path = os.path.join(os.path.dirname(os.path.dirname(os.path.abspath(__file__))), "README.md")
        result = doctest.testfile(path, module_relative=False)
        self.assertEqual(result.failed, 0)
        self.assertGreater(result.attempted, 0)


if __name__ == "__main__":
    unittest.main()

"""The examples of README.md."""

import doctest
import pathlib
import unittest

README = pathlib.Path(__file__).resolve().parent.parent / "README.md"


class ReadmeTest(unittest.TestCase):
    """What README.md shows is what the program answers."""

    def test_examples(self):
        told = doctest.testfile(str(README), module_relative=False, encoding="utf-8")
        self.assertEqual(0, told.failed)
        self.assertGreater(told.attempted, 10)


if __name__ == "__main__":
    unittest.main()

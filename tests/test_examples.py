"""The examples of the document's interface, word for word: one file of examples/ for each stage."""

import doctest
import os
import unittest

FOLDER = os.path.join(os.path.dirname(os.path.abspath(__file__)), "examples")


class Examples(unittest.TestCase):
    def check(self, stage, examples):
        path = os.path.join(FOLDER, f"stage{stage}.txt")
        failed, attempted = doctest.testfile(path, module_relative=False)
        self.assertEqual((failed, attempted), (0, examples))

    def test_stage_1(self):
        self.check(1, 3)


if __name__ == "__main__":
    unittest.main()

"""The examples of the document's interface, word for word: one file of examples/ for each stage."""

import doctest
import os
import unittest

FOLDER = os.path.join(os.path.dirname(os.path.abspath(__file__)), "examples")
# How many examples each stage's file has.
EXAMPLES = {1: 3, 2: 4, 3: 4, 4: 4, 5: 5, 6: 4, 7: 2, 8: 9, 9: 6, 10: 8, 11: 8, 12: 8, 13: 3, 14: 4}


class Examples(unittest.TestCase):
    def test_each_stage(self):
        for stage, many in EXAMPLES.items():
            with self.subTest(stage=stage):
                path = os.path.join(FOLDER, f"stage{stage}.txt")
                failed, attempted = doctest.testfile(path, module_relative=False)
                self.assertEqual((failed, attempted), (0, many))


if __name__ == "__main__":
    unittest.main()

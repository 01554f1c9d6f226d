"""Each example that stands behind `>>>` in the document, with just the answer that stands there; those of README.md."""

import doctest
import unittest
from pathlib import Path

HERE = Path(__file__).resolve().parent
EXAMPLES = sorted((HERE / "examples").glob("*.txt"))


class Examples(unittest.TestCase):
    def test_each_answer_is_just_the_one_of_the_document(self):
        self.assertTrue(EXAMPLES)
        for path in [*EXAMPLES, HERE.parent / "README.md"]:
            with self.subTest(file=path.name):
                results = doctest.testfile(str(path), module_relative=False)
                self.assertGreater(results.attempted, 0)
                self.assertEqual(results.failed, 0)


if __name__ == "__main__":
    unittest.main()

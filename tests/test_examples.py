"""The examples of the document, as they stand in examples.txt, and those of the readme."""

import doctest
import os
import unittest

HERE = os.path.dirname(os.path.abspath(__file__))


class TestExamples(unittest.TestCase):
    def assert_answers(self, path, many):
        with open(path, encoding="ascii") as file:
            told = doctest.DocTestParser().get_doctest(file.read(), {}, os.path.basename(path), path, 0)
        words = []
        result = doctest.DocTestRunner(verbose=False).run(told, out=words.append)
        self.assertEqual(result.failed, 0, "".join(words))
        self.assertEqual(result.attempted, many)

    def test_of_the_document(self):
        self.assert_answers(os.path.join(HERE, "examples.txt"), 92)

    def test_of_the_readme(self):
        self.assert_answers(os.path.join(os.path.dirname(HERE), "README.md"), 26)


if __name__ == "__main__":
    unittest.main()

"""The examples that the document gives, word for word (tests/examples.txt)."""

import doctest
import os
import unittest

TEXT = os.path.join(os.path.dirname(__file__), "examples.txt")
README = os.path.join(os.path.dirname(__file__), "..", "README.md")


def blocks():
    """The examples by files, in sequence, each as a tuple of the file's heading and the text."""
    with open(TEXT, encoding="ascii") as kept:
        parts = kept.read().split("# ")[1:]
    return [tuple(part.split("\n", 1)) for part in parts]


class Examples(unittest.TestCase):

    def test_examples(self):
        names = {}
        for head, text in blocks():
            test = doctest.DocTestParser().get_doctest(text.rstrip("\n") + "\n", names, head, TEXT, 0)
            told = []
            runner = doctest.DocTestRunner(verbose=False)
            runner.run(test, out=told.append, clear_globs=False)
            self.assertGreater(runner.tries, 0, head)
            self.assertEqual((runner.failures, "".join(told)), (0, ""), head)
            # What an example named stands for the same in the examples behind it.
            names = test.globs

    def test_each_file_has_one(self):
        self.assertEqual([head for head, _ in blocks()],
                         ["toldpushes/basics.py, toldpushes/ratios.py"]
                         + [f"toldpushes/{name}.py" for name in "solved tables plans ways tellings roads lots bars back fits"
                            " twins full moved known few texts readers claims commands desk".split()])

    def test_readme(self):
        told = []
        with open(README, encoding="ascii") as kept:
            test = doctest.DocTestParser().get_doctest(kept.read(), {}, "README", README, 0)
        runner = doctest.DocTestRunner(verbose=False)
        runner.run(test, out=told.append)
        self.assertGreater(runner.tries, 0)
        self.assertEqual((runner.failures, "".join(told)), (0, ""))


if __name__ == "__main__":
    unittest.main()

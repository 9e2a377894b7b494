"""The examples of the README, and those of the document where it is at hand."""

import builtins
import doctest
import os
import unittest

ROOT = os.path.dirname(os.path.dirname(os.path.abspath(__file__)))
FLAGS = doctest.IGNORE_EXCEPTION_DETAIL


def run_examples(text, name):
    """Run the examples of a text one after another, and return how many failed and how many there are."""
    examples = doctest.DocTestParser().get_doctest(text.replace("```", ""), {}, name, name, 0)
    found = doctest.DocTestRunner(optionflags=FLAGS).run(examples)
    # Results that are shown are kept under this name, which is no builtin for other tests.
    vars(builtins).pop("_", None)
    return found


class Examples(unittest.TestCase):
    def check(self, path, least):
        with open(path, encoding="utf-8") as source:
            failed, tried = run_examples(source.read(), os.path.basename(path))
        self.assertEqual(failed, 0)
        self.assertGreater(tried, least)

    def test_readme(self):
        self.check(os.path.join(ROOT, "README.md"), 30)

    def test_document(self):
        path = os.path.join(os.path.dirname(ROOT), "shared", "DOC.md")
        if not os.path.exists(path):
            self.skipTest("the document is not at hand")
        self.check(path, 25)


if __name__ == "__main__":
    unittest.main()

"""Point 5 and the heading tidemark/errors.py of the interface."""

import unittest

from tidemark import errors

PLAIN = """
InvalidSize InvalidFates InvalidLooks NoSuchBlock NoSuchPage InvalidContent InvalidDigits InvalidEndurance
PowerCut WornOut NoVolume VolumeDown ReadOnly NoSpace TooMuch TooManyDeeds
InvalidPath InvalidTarget InvalidOffset InvalidLength TooManyOctets InvalidPattern InvalidBatch InvalidCalls
""".split()

OF_FILES = """
NotDirectory NotFound TooManyLinks RootFixed IsDirectory FileTooLarge AlreadyExists DirectoryFull NotEmpty
NotLink TooManyOpen TooManyFiles WithinItself NotOpen
""".split()

INDEXED = ["InvalidOperation", "InvalidCall"]
WORDED = ["OperationRefused", "CallRefused"]


class ErrorClasses(unittest.TestCase):
    def test_base_class(self):
        self.assertTrue(issubclass(errors.TidemarkError, ValueError))

    def test_every_class_is_a_tidemark_error(self):
        for name in PLAIN + OF_FILES + INDEXED + WORDED + ["FileError"]:
            with self.subTest(name):
                found = getattr(errors, name)
                self.assertTrue(issubclass(found, errors.TidemarkError))
                self.assertEqual(found.__module__, "tidemark.errors")

    def test_only_reasons_of_files_are_file_errors(self):
        for name in OF_FILES:
            self.assertTrue(issubclass(getattr(errors, name), errors.FileError), name)
        for name in PLAIN + INDEXED + WORDED:
            self.assertFalse(issubclass(getattr(errors, name), errors.FileError), name)

    def test_no_other_class_stands_between(self):
        for name in PLAIN + INDEXED + WORDED + ["FileError"]:
            self.assertEqual(getattr(errors, name).__mro__[1], errors.TidemarkError, name)
        for name in OF_FILES:
            self.assertEqual(getattr(errors, name).__mro__[1], errors.FileError, name)

    def test_index(self):
        for name in INDEXED:
            self.assertEqual(getattr(errors, name)(4).index, 4, name)

    def test_index_and_word(self):
        for name in WORDED:
            error = getattr(errors, name)(15, "notempty")
            self.assertEqual((error.index, error.word), (15, "notempty"), name)


class WordOf(unittest.TestCase):
    def test_plain_classes(self):
        for name in PLAIN + OF_FILES + ["TidemarkError", "FileError"]:
            self.assertEqual(errors.word_of(getattr(errors, name)("what happened")), name.lower())

    def test_known_words(self):
        self.assertEqual(errors.word_of(errors.NotFound("/a")), "notfound")
        self.assertEqual(errors.word_of(errors.NoSuchBlock("24")), "nosuchblock")

    def test_classes_with_an_index_alone(self):
        self.assertEqual(errors.word_of(errors.InvalidOperation(0)), "invalidoperation")
        self.assertEqual(errors.word_of(errors.InvalidCall(12)), "invalidcall")

    def test_operation_refused(self):
        self.assertEqual(errors.word_of(errors.OperationRefused(0, "notfound")), "operation 0: notfound")
        self.assertEqual(errors.word_of(errors.OperationRefused(15, "toomanylinks")), "operation 15: toomanylinks")

    def test_call_refused(self):
        self.assertEqual(errors.word_of(errors.CallRefused(3, "nospace")), "call 3: nospace")

    def test_call_refused_for_a_batch(self):
        inner = errors.word_of(errors.OperationRefused(2, "isdirectory"))
        self.assertEqual(errors.word_of(errors.CallRefused(1, inner)), "call 1: operation 2: isdirectory")


if __name__ == "__main__":
    unittest.main()

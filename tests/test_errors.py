"""Point 3: the error classes."""

import unittest

from vaultbridge import errors

NAMES = [
    "InvalidArgument", "InvalidOrder", "UnknownToken", "NotEnoughBalance", "NotEnoughWeight", "WrongSide",
    "WrongNumber", "AlreadyTaken", "UnknownTransfer", "LimitReached", "Stopped", "UnknownParent", "UnknownBlock",
    "DuplicateBlock", "ConflictsWithFinal", "UnknownSeal", "AlreadyApproved", "TooEarly", "StillOnDuty",
    "NothingBonded", "BadNotation", "UnknownDigest",
]


class ErrorsTest(unittest.TestCase):

    def test_base_class(self):
        self.assertEqual(errors.BridgeError.__bases__, (ValueError,))
        self.assertEqual(errors.BridgeError("x").word(), "BridgeError")

    def test_each_class_derives_directly_from_the_base_class(self):
        for name in NAMES:
            made = getattr(errors, name)
            self.assertEqual(made.__bases__, (errors.BridgeError,), name)
            self.assertEqual(made.__module__, "vaultbridge.errors")

    def test_word_is_the_name_of_the_class(self):
        for name in NAMES:
            made = getattr(errors, name)
            self.assertEqual(made("some text").word(), name)
            self.assertEqual(made().word(), name)

    def test_there_are_no_other_classes(self):
        found = [name for name in vars(errors) if isinstance(vars(errors)[name], type)]
        self.assertEqual(sorted(found), sorted(NAMES + ["BridgeError"]))

    def test_word_stands_in_the_base_class(self):
        self.assertIn("word", vars(errors.BridgeError))


if __name__ == "__main__":
    unittest.main()

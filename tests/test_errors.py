import unittest

from covernets import errors

PLAIN_CLASSES = ["InvalidNet", "NotPlain", "TooMany", "InvalidProtocol", "PaperSyntaxError"]


class ErrorsTest(unittest.TestCase):
    def test_base_class(self):
        self.assertEqual(errors.CoverError.__bases__, (ValueError,))

    def test_each_class_stands_directly_below(self):
        for name in PLAIN_CLASSES + ["NotEnabled", "IllegalStep", "ProtocolSyntaxError"]:
            self.assertEqual(getattr(errors, name).__bases__, (errors.CoverError,), name)

    def test_attributes(self):
        self.assertEqual(errors.NotEnabled(3).position, 3)
        self.assertEqual(errors.NotEnabled(position=4).position, 4)
        self.assertEqual(errors.IllegalStep(5).position, 5)
        self.assertEqual(errors.ProtocolSyntaxError(line=6).line, 6)

    def test_can_be_caught_as_value_errors(self):
        for name in PLAIN_CLASSES:
            with self.assertRaises(ValueError):
                raise getattr(errors, name)("told")


if __name__ == "__main__":
    unittest.main()
